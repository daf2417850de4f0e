/-
  Chapter 14: ReadSeparated, of the specification.
-/
import Derived.Test.YtkjbeciiecljgaaDoorRs1
import Derived.Test.YtkjbeciiecljgaaDoorRd15
namespace Go.Proofs.YtkjbeciiecljgaaDoor
open Go.RowKit

/-- The quoted field, as far as it is gone through. -/
def QuoW (t : List UInt8) (a k : Nat) (f : List UInt8) : Prop := quoU (t.drop a) = (quoU (t.drop (a + k))).map (fun p => (f ++ p.1, k + p.2))
def PlnW (m : UInt8) (t : List UInt8) (a k : Nat) : Prop := plnU m (t.drop a) = (k + (plnU m (t.drop (a + k))).1, (plnU m (t.drop (a + k))).2)
theorem QuoW.start (t : List UInt8) (a : Nat) : QuoW t a 0 [] := by
  unfold QuoW
  rw [Nat.add_zero]
  cases quoU (t.drop a) <;> simp
theorem PlnW.start (m : UInt8) (t : List UInt8) (a : Nat) : PlnW m t a 0 := by
  unfold PlnW
  rw [Nat.add_zero, Nat.zero_add]
theorem quoU_one' (b : UInt8) (r : List UInt8) (h : b ≠ 34) : quoU (b :: r) = (quoU r).map (fun p => (b :: p.1, p.2 + 1)) := by
  cases r with
  | nil => unfold quoU; rw [if_neg h]; rfl
  | cons c r => rw [quoU_two, if_neg h]
theorem QuoW.more {t : List UInt8} {a k : Nat} {f : List UInt8} {b : UInt8} (h : QuoW t a k f) (hb : t[a + k]? = some b) (h34 : b ≠ 34) : QuoW t a (k + 1) (f ++ [b]) := by
  unfold QuoW at *
  rw [h, dropC hb, quoU_one' b _ h34, ← Nat.add_assoc, Option.map_map]
  cases quoU (t.drop (a + k + 1)) with
  | none => rfl
  | some p => simp; omega
theorem QuoW.twice {t : List UInt8} {a k : Nat} {f : List UInt8} (h : QuoW t a k f) (hb : t[a + k]? = some 34) (hc : t[a + k + 1]? = some 34) : QuoW t a (k + 2) (f ++ [34]) := by
  unfold QuoW at *
  rw [h, dropC hb, dropC hc, quoU_two, if_pos rfl, if_pos rfl, show a + (k + 2) = a + k + 1 + 1 by omega, Option.map_map]
  cases quoU (t.drop (a + k + 1 + 1)) with
  | none => rfl
  | some p => simp; omega
theorem QuoW.last {t : List UInt8} {a k : Nat} {f : List UInt8} (h : QuoW t a k f) (hb : t[a + k]? = some 34) (hc : t[a + k + 1]? ≠ some 34) : quoU (t.drop a) = some (f, k + 1) := by
  unfold QuoW at h
  rw [h, dropC hb]
  cases hd : t[a + k + 1]? with
  | none =>
    rw [List.drop_eq_nil_of_le (by have := List.getElem?_eq_none_iff.1 hd; omega)]
    simp [quoU]
  | some c =>
    rw [dropC hd, quoU_two, if_pos rfl, if_neg (fun e => hc (by rw [hd, e]))]
    simp
theorem QuoW.none {t : List UInt8} {a k : Nat} {f : List UInt8} (h : QuoW t a k f) (hk : t.length ≤ a + k) : quoU (t.drop a) = none := by
  unfold QuoW at h
  rw [h, List.drop_eq_nil_of_le hk]
  rfl
theorem PlnW.more {m : UInt8} {t : List UInt8} {a k : Nat} {b : UInt8} (h : PlnW m t a k) (hb : t[a + k]? = some b) (hs : stopU m (t.drop (a + k)) = false) (h34 : b ≠ 34) : PlnW m t a (k + 1) := by
  unfold PlnW at *
  rw [h, dropC hb, ← Nat.add_assoc]
  rw [dropC hb] at hs
  conv => lhs; unfold plnU
  rw [if_neg (by rw [hs]; decide), if_neg h34]
  simp
  omega
theorem PlnW.last {m : UInt8} {t : List UInt8} {a k : Nat} (h : PlnW m t a k) (hs : stopU m (t.drop (a + k)) = true) : plnU m (t.drop a) = (k, false) := by
  unfold PlnW at h
  rw [h]
  cases hd : t.drop (a + k) with
  | nil => rfl
  | cons b r =>
    rw [hd] at hs
    unfold plnU
    rw [if_pos hs]
    simp
theorem PlnW.bad {m : UInt8} {t : List UInt8} {a k : Nat} (h : PlnW m t a k) (hb : t[a + k]? = some 34) (hs : stopU m (t.drop (a + k)) = false) : plnU m (t.drop a) = (k, true) := by
  unfold PlnW at h
  rw [h]
  rw [dropC hb] at hs ⊢
  unfold plnU
  rw [if_neg (by rw [hs]; decide), if_pos rfl]
  simp
theorem fieldU_pln (m : UInt8) (s : List UInt8) (h : (s.head? == some 34) = false) : fieldU m s = if (plnU m s).2 = true then .bad 2 (plnU m s).1 else .ok (s.take (plnU m s).1) (plnU m s).1 := by
  unfold fieldU
  split
  · simp at h
  · rfl
theorem fieldU_quoS (m : UInt8) (r : List UInt8) : fieldU m (34 :: r) = match quoU r with
    | none => .bad 1 (r.length + 1)
    | some (f, n) => if stopU m (r.drop n) = true then .ok f (n + 1) else .bad 2 (n + 1) := rfl
theorem stopU_cons (m b : UInt8) (r : List UInt8) : stopU m (b :: r) = ((b == m) || decide (endU (b :: r) ≠ 0)) := by
  unfold stopU
  simp
theorem put_x (w0 w : World) (v : Value) (l : List (List UInt8)) (f : List UInt8) (x : Ext w0 w) (O : OwnX w w0.heap.size v l) (hl : l.length ≤ 1000000) :
    ∃ p n q w2, (Builtin.append_ #[30, 30] 30 #[v, .slice (some ⟨w.heap.size, 0, none⟩) 1 1]).run Tryd.prog (w.alloc (.cells #[sV f] 9)) = .ok (.slice p n q) w2 ∧ OwnX w2 w0.heap.size (.slice p n q) (l ++ [f]) ∧ Ext w0 w2 := by
  have X := x1 w (.cells #[sV f] 9)
  have V := vec_made w [sV f] 9
  change Vec (w.alloc (.cells #[sV f] 9)) _ _ at V
  obtain ⟨inf, hi, hz, hsz, hby⟩ := infoX
  obtain ⟨v', w', hrun, O', GW, _⟩ := app_srcG (P := Tryd.prog) (w.alloc (.cells #[sV f] 9)) w0.heap.size 30 30 30 9 inf (.string ByteArray.empty) Tryd.underlying30 hi hz 1 hsz (by rw [hby]; omega) rfl v l.length _ (ownX_later O X) (.slice (some ⟨w.heap.size, 0, none⟩) 1 1) 1 [sV f]
    (Src.ofSlice (size := 1) _ Tryd.underlying30 ⟨w.heap.size, 0, none⟩ 1 1 [sV f] rfl (fun j u hj => by rw [Addr.add_lit, Nat.zero_add]; exact (V j u hj).1) (fun u hu => by simp at hu; subst hu; rfl)) (by omega) (Nat.le_trans x.size X.size)
  have O2 : OwnX w' w0.heap.size v' (l ++ [f]) := by
    show World.ownsRow _ _ _ _ _ _ _
    rw [List.length_append, List.map_append]
    exact O'
  obtain ⟨p, q, rfl, _⟩ := ownX_slice O2
  exact ⟨p, _, q, w', hrun, O2, ext_rowY (xt x X) GW (fun r hr => (ownX_lt O r hr).1)⟩
/-- What a row's reading leaves to be read. -/
def NextW (m : UInt8) (t : List UInt8) (g : Nat) (L : List (List (List UInt8))) (R : RU) : WU → Prop
  | .bad e k => R = ⟨e, k, []⟩
  | .ok l k => rowsU m t g k (L ++ [l]) = R
theorem rowsU_row {m : UInt8} {t : List UInt8} {g i : Nat} {L : List (List (List UInt8))} {R : RU} (h : rowsU m t (g + 1) i L = R) (hi : i < t.length) : NextW m t g L R (rowU m t (t.length - i + 1) i []) := by
  unfold rowsU at h
  rw [if_neg (by omega)] at h
  cases hr : rowU m t (t.length - i + 1) i [] with
  | bad e k => rw [hr] at h; exact h.symm
  | ok l k => rw [hr] at h; exact h
/-- What the specification's answer holds. -/
theorem fin3 {w wq : World} (A : Vec wq w.heap.size [.int .i64 0, .int .i64 0, .slice none 0 0]) (x : Ext w wq) (u0 u1 u2 : Value) :
    Ext w (((wq.setCell ⟨w.heap.size, 0, none⟩ u0).setCell ⟨w.heap.size, 1, none⟩ u1).setCell ⟨w.heap.size, 2, none⟩ u2) ∧ Box3 (((wq.setCell ⟨w.heap.size, 0, none⟩ u0).setCell ⟨w.heap.size, 1, none⟩ u1).setCell ⟨w.heap.size, 2, none⟩ u2) w.heap.size u0 u1 u2 :=
  ⟨xset (xset (xset x (p := ⟨w.heap.size, 0, none⟩) (Nat.le_refl _) _) (p := ⟨w.heap.size, 1, none⟩) (Nat.le_refl _) _) (p := ⟨w.heap.size, 2, none⟩) (Nat.le_refl _) _,
    box3_puts ⟨⟨(A 0 _ rfl).1, (A 1 _ rfl).1, (A 2 _ rfl).1⟩, (A 0 _ rfl).2, (A 1 _ rfl).2, (A 2 _ rfl).2⟩ _ _ _⟩
set_option maxRecDepth 8000 in
set_option maxHeartbeats 8000000 in
theorem readS (t : List UInt8) (m : UInt8) (w : World) (ht : t.length ≤ 20000) (hmk : isMk [m] = true) :
    Calls Tryd.prog 4 #[sV t, sV [m]] w fun e w' => ∃ v, e = .returned (.agg #[.int .i64 (rowsU m t (t.length + 1) 0 []).e, .int .i64 (rowsU m t (t.length + 1) 0 []).at', v]) ∧ RowsX w' (w.heap.size + 1) v (rowsU m t (t.length + 1) 0 []).rows ∧ Ext w w' := by
  have CM := markS14 [m] (w.alloc (.cells #[.int .i64 0, .int .i64 0, .slice none 0 0] 24))
  rw [hmk] at CM
  obtain ⟨mk, hmk2⟩ : ∃ mk : ByteArray, (⟨[m].toArray⟩ : ByteArray) = mk := ⟨_, rfl⟩
  have hms : 0 < mk.size := by rw [← hmk2]; simp [ByteArray.size]
  have hm0 : ((mk[0]'hms).toNat : Int) = (m.toNat : Int) := by
    have := byte_atA (l := [m]) (s := mk) (by rw [← hmk2]) hms
    rw [this]
    rfl
  obtain ⟨M, hM⟩ : ∃ M : Int, (m.toNat : Int) = M := ⟨_, rfl⟩
  have HM : Hid ((m.toNat : Int) = M) := hM
  rw [hM] at hm0
  obtain ⟨s, hs⟩ : ∃ s : ByteArray, (⟨t.toArray⟩ : ByteArray) = s := ⟨_, rfl⟩
  have hsl : s.data.toList = t := by rw [← hs]
  have hsz := size_ofL' hsl
  have HS : Hid (s.data.toList = t) := hsl
  change Calls Tryd.prog 9 #[.string ⟨[m].toArray⟩] _ _ at CM
  show Calls Tryd.prog 4 #[.string ⟨t.toArray⟩, .string ⟨[m].toArray⟩] w _
  rw [hmk2] at CM ⊢
  rw [hs]
  obtain ⟨n, hn⟩ : ∃ n, t.length = n := ⟨_, rfl⟩
  have HN : Hid (t.length = n) := hn
  rw [hn] at ht hsz
  obtain ⟨⟨re, ra, rl⟩, hRR⟩ : ∃ RR, rowsU m t (t.length + 1) 0 [] = RR := ⟨_, rfl⟩
  have HRR : Hid (rowsU m t (n + 1) 0 [] = ⟨re, ra, rl⟩) := by rw [← hn]; exact hRR
  rw [hRR]
  have A0 := vec_made w [.int .i64 0, .int .i64 0, .slice none 0 0] 24
  have X0 := x1 w (.cells #[.int .i64 0, .int .i64 0, .slice none 0 0] 24)
  change Vec (w.alloc (.cells #[.int .i64 0, .int .i64 0, .slice none 0 0] 24)) _ _ at A0
  have Z0 : (w.alloc (.cells #[.int .i64 0, .int .i64 0, .slice none 0 0] 24)).heap.size = w.heap.size + 1 := by simp
  obtain ⟨w0, hw0⟩ : ∃ w0, w.alloc (.cells #[.int .i64 0, .int .i64 0, .slice none 0 0] 24) = w0 := ⟨_, rfl⟩
  rw [hw0] at A0 X0 Z0 CM
  have HA : Hid (Vec w0 w.heap.size [.int .i64 0, .int .i64 0, .slice none 0 0] ∧ Ext w w0 ∧ w0.heap.size = w.heap.size + 1) := ⟨A0, X0, Z0⟩
  have HEnd : Hid (∀ (i : Nat) (W : World), i ≤ n → Calls Tryd.prog 10 #[.string s, .int .i64 i] W fun e w' => e = .returned (.int .i64 (endU (t.drop i) : Nat)) ∧ w' = W) := fun i W hi => endS s t i W HS.out (by rw [HN.out]; exact hi) (by rw [HN.out]; omega)
  clear hmk hmk2 hM hs hsl hn hRR A0 X0 Z0
  go_enter Tryd.func4, Tryd.ntmps4
  go_wp2_with fail
  clear hw0
  refine CM.mono ?_
  rintro _ wx ⟨rfl, rfl⟩
  clear CM
  go_wp2_with fail
  go_loopw [5, 6] (fun v5 s6 wr => ∃ (i G z c : Nat) (p : Option Addr) (L : List (List (List UInt8))), i ≤ n ∧ s6 = .int .i64 i ∧ v5 = .slice p z c ∧ Hid (RowsX wr (w.heap.size + 1) (.slice p z c) L ∧ L.length ≤ i) ∧ Hid (n + 1 ≤ i + G ∧ rowsU m t G i L = ⟨re, ra, rl⟩) ∧ Hid (Ext wx wr)) (fun _ s6 _ => n - (intOf s6).toNat)
  case atStart => exact ⟨0, n + 1, 0, 0, none, [], by omega, rfl, rfl, ⟨RowsX.nil _ _, by simp⟩, ⟨by omega, HRR.out⟩, xr _⟩
  case round =>
    clear HRR
    obtain ⟨i, G, z, c, p, L, hi, rfl, rfl, HX, HG, HE⟩ := hrel
    by_cases hlt : i < n
    · obtain ⟨G, rfl⟩ : ∃ g, G = g + 1 := ⟨G - 1, by have := HG.out.1; omega⟩
      have HNX := rowsU_row HG.out.2 (by rw [HN.out]; exact hlt)
      obtain ⟨RW, hRW⟩ : ∃ RW, rowU m t (t.length - i + 1) i [] = RW := ⟨_, rfl⟩
      have HRW : Hid (rowU m t (n - i + 1) i [] = RW) := by rw [HN.out] at hRW; exact hRW
      rw [hRW] at HNX
      have HNX : Hid (NextW m t G L ⟨re, ra, rl⟩ RW) := HNX
      have HOK : Hid (∀ l k, RW = .ok l k → i < k ∧ k ≤ n ∧ 1 ≤ l.length ∧ l.length ≤ k + 1) := fun l k h => by
        rw [h] at hRW
        have := rowU_lt m t _ i [] l k (by rw [HN.out]; omega) hRW
        rw [HN.out] at this
        simp at this
        exact ⟨this.2.2.1 hlt, this.2.1, this.2.2.2.1, by omega⟩
      have HGf : Hid (n + 1 ≤ i + (G + 1)) := HG.out.1
      have i2 : (i : Int) < (n : Int) := by omega
      obtain ⟨wo, hwo⟩ : ∃ wo, wo = wr := ⟨_, rfl⟩
      subst hwo
      clear hRW HG
      go_wp2_with fail
      go_loopw [6, 7] (fun s6 v7 wq => ∃ (j g z c : Nat) (p : Option Addr) (row : List (List UInt8)), i ≤ j ∧ j ≤ n ∧ s6 = .int .i64 j ∧ v7 = .slice p z c ∧ Hid (OwnX wq wo.heap.size (.slice p z c) row ∧ row.length ≤ j) ∧ Hid (n + 1 ≤ j + g ∧ rowU m t g j row = RW) ∧ Hid (Ext wo wq)) (fun s6 _ _ => n - (intOf s6).toNat)
      case atStart => exact ⟨i, n - i + 1, 0, 0, none, [], by omega, by omega, rfl, rfl, ⟨ownX_nil _ _, by simp⟩, ⟨by omega, HRW.out⟩, xr _⟩
      case round =>
        clear HRW
        obtain ⟨j, g, z2, c2, p2, row, hij, hjn, rfl, rfl, HO, HR, HE2⟩ := hrel
        obtain ⟨wp, hwp⟩ : ∃ wp, wp = wr := ⟨_, rfl⟩
        subst hwp
        have HBad : Hid (∀ e k, fieldU m (t.drop j) = .bad e k → re = e ∧ ra = j + k ∧ rl = []) := fun e k h => by
          obtain ⟨g', hg'⟩ : ∃ g', g = g' + 1 := ⟨g - 1, by have := HR.out.1; omega⟩
          have h1 := HR.out.2
          rw [hg'] at h1
          unfold rowU at h1
          rw [h] at h1
          dsimp only at h1
          have h2 := HNX.out
          rw [← h1] at h2
          have h3 : (⟨re, ra, rl⟩ : RU) = ⟨e, j + k, []⟩ := h2
          injection h3 with a b c
          exact ⟨a, b, c⟩
        obtain ⟨Q, hQ⟩ : ∃ Q, ((t.drop j).head? == some 34) = Q := ⟨_, rfl⟩
        have HQ : Hid (((t.drop j).head? == some 34) = Q) := hQ
        clear hQ
        go_upto_region 8 with fail
        go_cut [31] (fun s wc => s = .bool Q ∧ wc = wp)
        case first =>
          by_cases hj : j < n
          · have hks : j < s.size := by omega
            have hb0 := byte_atA HS.out hks
            obtain ⟨b, hb⟩ : ∃ b, t[j]? = some b := ⟨_, List.getElem?_eq_getElem (by rw [HN.out]; exact hj)⟩
            have hgd : t.getD j 0 = b := by rw [List.getD, hb]; rfl
            rw [hgd] at hb0
            have hbn : ((s[j]'hks).toNat : Int) = (b.toNat : Int) := by rw [hb0]
            have HD : Hid (Q = (b == 34)) := by
              show _ = _
              rw [← HQ.out, dropC hb]
              rfl
            have j2 : (j : Int) < (n : Int) := by omega
            clear hb0 hgd hb
            by_cases b34 : b = 34
            · subst b34
              have n1 : (((34 : UInt8).toNat : Int)) = 34 := rfl
              rw [n1] at hbn
              go_wp2_with fail
              go_meet
              case rel => exact ⟨by rw [HD.out]; rfl, rfl⟩
            · obtain ⟨B, hB⟩ : ∃ B : Int, (b.toNat : Int) = B := ⟨_, rfl⟩
              have g34 : (B == 34) = false := by have := byteN (k := 34) b34 (by omega); simp; omega
              have HD2 : Hid (Q = false) := by show _ = _; rw [HD.out]; simp [b34]
              rw [hB] at hbn
              clear hB b34
              go_wp2_with fail
              go_meet
              case rel => exact ⟨by rw [HD2.out], rfl⟩
          · obtain rfl : j = n := by omega
            have HD : Hid (Q = false) := by
              show _ = _
              rw [← HQ.out, List.drop_eq_nil_of_le (by rw [HN.out]; exact Nat.le_refl _)]
              rfl
            go_wp2_with fail
            go_meet
            case rel => exact ⟨by rw [HD.out], rfl⟩
        case rest =>
          obtain ⟨rfl, hwc⟩ := hcut
          rw [hwc]
          clear hwc
          go_upto_if 31 with fail
          go_cut [6, 8] (fun s6 s8 wc => ∃ (a z c : Nat) (p : Option Addr) (f : List UInt8), a ≤ n ∧ s6 = .int .i64 a ∧ s8 = .slice p z c ∧ Hid (j ≤ a ∧ fieldU m (t.drop j) = .ok f (a - j)) ∧ Hid (OwnY wc wp.heap.size (.slice p z c) f) ∧ Hid (Ext wp wc))
          case first =>
            have HXw : Hid (Ext wx wp) := xt HE.out HE2.out
            have HStop : Hid (∀ a, a < n → ∀ b, t[a]? = some b → stopU m (t.drop a) = ((b == m) || decide (endU (t.drop a) ≠ 0))) := fun a _ b hb => by rw [dropC hb, stopU_cons]
            have HBM : Hid (∀ b : UInt8, ((b.toNat : Int) == M) = (b == m)) := fun b => by
              rw [← HM.out]
              cases h : (b == m) with
              | true => simp at h; subst h; simp
              | false => simp at h; rw [beq_eq_false_iff_ne]; intro e; exact h (UInt8.toNat_inj.1 (by omega))
            clear HO HR HE2 HX HNX HOK HGf HE
            cases Q
            · have HFp : Hid (fieldU m (t.drop j) = if (plnU m (t.drop j)).2 = true then .bad 2 (plnU m (t.drop j)).1 else .ok ((t.drop j).take (plnU m (t.drop j)).1) (plnU m (t.drop j)).1) := fieldU_pln m _ HQ.out
              go_wp2_with fail
              go_loopw [6, 8] (fun s6 s8 wq => ∃ (a z c : Nat) (p : Option Addr), j ≤ a ∧ a ≤ n ∧ s6 = .int .i64 a ∧ s8 = .slice p z c ∧ Hid (PlnW m t j (a - j)) ∧ Hid (OwnY wq wp.heap.size (.slice p z c) ((t.drop j).take (a - j))) ∧ Hid (Ext wp wq)) (fun s6 _ _ => n - (intOf s6).toNat)
              case atStart => exact ⟨j, 0, 0, none, by omega, hjn, rfl, rfl, by rw [Nat.sub_self]; exact PlnW.start _ _ _, by rw [Nat.sub_self]; exact ownY_nil _ _, xr _⟩
              case round =>
                obtain ⟨a, z3, c3, p3, hja, han, rfl, rfl, HP, HOY, HE3⟩ := hrel
                obtain ⟨wz, hwz⟩ : ∃ wz, wz = wr := ⟨_, rfl⟩
                subst hwz
                obtain ⟨T, hT⟩ : ∃ T, stopU m (t.drop a) = T := ⟨_, rfl⟩
                have HT : Hid (stopU m (t.drop a) = T) := hT
                have hsub : j + (a - j) = a := by omega
                have HSub : Hid (j + (a - j) = a) := hsub
                clear hT hsub
                go_upto_region 20 with fail
                go_cut [106] (fun s wc => s = .bool (!T) ∧ Ext wz wc)
                case first =>
                  by_cases hj : a < n
                  · have hks : a < s.size := by omega
                    have hb0 := byte_atA HS.out hks
                    obtain ⟨b, hb⟩ : ∃ b, t[a]? = some b := ⟨_, List.getElem?_eq_getElem (by rw [HN.out]; exact hj)⟩
                    have hgd : t.getD a 0 = b := by rw [List.getD, hb]; rfl
                    rw [hgd] at hb0
                    have hbn : ((s[a]'hks).toNat : Int) = (b.toNat : Int) := by rw [hb0]
                    have HTb : Hid (T = ((b == m) || decide (endU (t.drop a) ≠ 0))) := by show _ = _; rw [← HT.out]; exact HStop.out a hj b hb
                    have HBm := HBM.out b
                    obtain ⟨B, hB⟩ : ∃ B : Int, (b.toNat : Int) = B := ⟨_, rfl⟩
                    obtain ⟨D, hD⟩ : ∃ D, (b == m) = D := ⟨_, rfl⟩
                    rw [hB] at hbn HBm
                    rw [hD] at HBm HTb
                    have hbm2 : (B != M) = !D := by rw [← HBm]; rfl
                    obtain ⟨E, hE⟩ : ∃ E, endU (t.drop a) = E := ⟨_, rfl⟩
                    have HCE : Hid (∀ W, Calls Tryd.prog 10 #[.string s, .int .i64 a] W fun e w' => e = .returned (.int .i64 (E : Nat)) ∧ w' = W) := fun W => by rw [← hE]; exact HEnd.out a W han
                    rw [hE] at HTb
                    have j2 : (a : Int) < (n : Int) := by omega
                    clear hb0 hgd hb hB hD hE
                    cases D
                    · simp only [Bool.not_false] at hbm2
                      by_cases hE0 : E = 0
                      · subst hE0
                        obtain rfl : T = false := by rw [HTb.out]; rfl
                        go_wp2_with fail
                        go_quiet (first | (go_at_call 10; exact Calls.quiet_of_same (HCE.out _)))
                        go_wp2_with fail
                        go_meet
                        case rel => exact ⟨rfl, xdNs (xr _) _⟩
                      · obtain rfl : T = true := by rw [HTb.out]; simp [hE0]
                        have gE : ((E : Int) == 0) = false := by simp [hE0]
                        go_wp2_with fail
                        go_quiet (first | (go_at_call 10; exact Calls.quiet_of_same (HCE.out _)))
                        go_wp2_with fail
                        go_meet
                        case rel => exact ⟨rfl, xdNs (xr _) _⟩
                    · simp only [Bool.not_true] at hbm2
                      obtain rfl : T = true := by rw [HTb.out]; rfl
                      go_wp2_with fail
                      go_quiet (first | (go_at_call 10; exact Calls.quiet_of_same (HCE.out _)))
                      go_wp2_with fail
                      go_meet
                      case rel => exact ⟨rfl, xdNs (xr _) _⟩
                  · obtain rfl : a = n := by omega
                    obtain rfl : T = true := by
                      rw [← HT.out, List.drop_eq_nil_of_le (by rw [HN.out]; exact Nat.le_refl _)]
                      rfl
                    go_wp2_with fail
                    go_quiet (first | (go_at_call 10; exact Calls.quiet_of_same (HEnd.out _ _ han)))
                    go_wp2_with fail
                    go_meet
                    case rel => exact ⟨rfl, xdNs (xr _) _⟩
                case rest =>
                  obtain ⟨rfl, e4⟩ := hcut
                  rename World => w4
                  have HO4 : Hid (OwnY w4 wp.heap.size (.slice p3 z3 c3) ((t.drop j).take (a - j)) ∧ Ext wp w4) := ⟨ownY_later HOY.out e4, xt HE3.out e4⟩
                  clear HOY HE3 e4
                  cases T
                  · have ha : a < n := by
                      rcases Nat.lt_or_ge a n with h | h
                      · exact h
                      · have := HT.out
                        rw [List.drop_eq_nil_of_le (by rw [HN.out]; exact h)] at this
                        cases this
                    have hks : a < s.size := by omega
                    have hb0 := byte_atA HS.out hks
                    obtain ⟨b, hb⟩ : ∃ b, t[a]? = some b := ⟨_, List.getElem?_eq_getElem (by rw [HN.out]; exact ha)⟩
                    have hgd : t.getD a 0 = b := by rw [List.getD, hb]; rfl
                    rw [hgd] at hb0
                    have hbn : ((s[a]'hks).toNat : Int) = (b.toNat : Int) := by rw [hb0]
                    have j2 : (a : Int) < (n : Int) := by omega
                    have hb' : t[j + (a - j)]? = some b := by rw [HSub.out]; exact hb
                    have hst : stopU m (t.drop (j + (a - j))) = false := by rw [HSub.out]; exact HT.out
                    by_cases b34 : b = 34
                    · subst b34
                      have n1 : (((34 : UInt8).toNat : Int)) = 34 := rfl
                      rw [n1] at hbn
                      have hpb := PlnW.bad HP.out hb' hst
                      obtain ⟨rfl, rfl, rfl⟩ := HBad.out 2 (a - j) (by rw [HFp.out, hpb]; rfl)
                      obtain ⟨XE, BX⟩ := fin3 (HA.out.1.later (xt HXw.out HO4.out.2)) (xt HA.out.2.1 (xt HXw.out HO4.out.2)) (.int .i64 2) (.int .i64 (a : Int)) (.slice none 0 0)
                      have HFN : Hid _ := And.intro XE BX
                      have A3 := HA.out.1.later (xt HXw.out HO4.out.2)
                      obtain ⟨q0, f0⟩ := A3 0 _ rfl
                      obtain ⟨q1, f1⟩ := A3 1 _ rfl
                      obtain ⟨q2, f2⟩ := A3 2 _ rfl
                      clear XE BX A3 HO4 hb hb' hst hpb hb0 hgd HP
                      go_wp2_with fail
                      obtain ⟨XE, ⟨d0, d1, d2⟩, _⟩ := HFN.out
                      exact bodyPost_ret (v := .agg #[.int .i64 2, .int .i64 (a : Int), .slice none 0 0]) (by simp [results, Tryd.results4, go_sem, d0, d1, d2]) rfl ⟨_, by first | rfl | (rw [HSub.out]; rfl), RowsX.nil _ _, XE⟩
                    · obtain ⟨B, hB⟩ : ∃ B : Int, (b.toNat : Int) = B := ⟨_, rfl⟩
                      have g34 : (B == 34) = false := by have := byteN (k := 34) b34 (by omega); simp; omega
                      obtain ⟨p5, z5, c5, w5, hrun, O5, X5⟩ := put_byte wp w4 _ _ b HO4.out.2 HO4.out.1 (by rw [List.length_take, List.length_drop, HN.out]; omega)
                      have e1 : a + 1 - j = (a - j) + 1 := by omega
                      have HK : Hid (PlnW m t j (a + 1 - j) ∧ OwnY w5 wp.heap.size (.slice p5 z5 c5) ((t.drop j).take (a + 1 - j)) ∧ Ext wp w5) := by
                        refine ⟨by rw [e1]; exact HP.out.more hb' hst b34, ?_, X5⟩
                        rw [e1, List.take_add_one, List.getElem?_drop, hb']
                        exact O5
                      rw [hB] at hbn hrun
                      obtain ⟨wa, hwa⟩ : ∃ wa, w4.alloc (.cells #[.int .u8 B] 5) = wa := ⟨_, rfl⟩
                      rw [hwa] at hrun
                      clear HO4 hb hb' hst hb0 hgd HP O5 X5 hB b34 e1
                      go_wp2_with (at_builtin; refine Lib.wpList_append_run _ rfl _ _ _ _ rfl _ _ rfl rfl _ _ hrun ?_)
                      go_wp2_with fail
                      go_roundw
                      case rel => exact ⟨a + 1, z5, c5, p5, by omega, by omega, by go_num, rfl, HK.out.1, HK.out.2.1, HK.out.2.2⟩
                      case measure => simp [intOf]; omega
                  · have hst : stopU m (t.drop (j + (a - j))) = true := by rw [HSub.out]; exact HT.out
                    have hpl := PlnW.last HP.out hst
                    have HFF : Hid (fieldU m (t.drop j) = .ok ((t.drop j).take (a - j)) (a - j)) := by show _ = _; rw [HFp.out, hpl]; rfl
                    clear hst hpl HP
                    go_wp2_with fail
                    go_meet
                    case rel => exact ⟨a, z3, c3, p3, _, han, rfl, rfl, ⟨hja, HFF.out⟩, HO4.out.1, HO4.out.2⟩
            · have hjn2 : j < n := by
                rcases Nat.lt_or_ge j n with h | h
                · exact h
                · have := HQ.out
                  rw [List.drop_eq_nil_of_le (by rw [HN.out]; exact h)] at this
                  cases this
              have ht34 : t[j]? = some 34 := by
                have := HQ.out
                rw [List.head?_drop] at this
                simpa using this
              have HFq : Hid (fieldU m (t.drop j) = match quoU (t.drop (j + 1)) with
                  | none => .bad 1 ((t.drop (j + 1)).length + 1)
                  | some (f, n) => if stopU m ((t.drop (j + 1)).drop n) = true then .ok f (n + 1) else .bad 2 (n + 1)) := by
                show _ = _
                rw [dropC ht34, fieldU_quoS]
              clear ht34
              go_wp2_with fail
              go_loopw [6, 8] (fun s6 s8 wq => ∃ (a z c : Nat) (p : Option Addr) (f : List UInt8), j + 1 ≤ a ∧ a ≤ n ∧ s6 = .int .i64 a ∧ s8 = .slice p z c ∧ Hid (QuoW t (j + 1) (a - (j + 1)) f ∧ f.length ≤ a) ∧ Hid (OwnY wq wp.heap.size (.slice p z c) f) ∧ Hid (Ext wp wq)) (fun s6 _ _ => n - (intOf s6).toNat)
              case atStart => exact ⟨j + 1, 0, 0, none, [], by omega, hjn2, by go_num, rfl, ⟨by rw [Nat.sub_self]; exact QuoW.start _ _, by simp⟩, ownY_nil _ _, xr _⟩
              case round =>
                obtain ⟨a, z3, c3, p3, f, hja, han, rfl, rfl, HP, HOY, HE3⟩ := hrel
                obtain ⟨wz, hwz⟩ : ∃ wz, wz = wr := ⟨_, rfl⟩
                subst hwz
                have HSub : Hid (j + 1 + (a - (j + 1)) = a) := by show _ = _; omega
                by_cases ha : a < n
                · have hks : a < s.size := by omega
                  have hb0 := byte_atA HS.out hks
                  obtain ⟨b, hb⟩ : ∃ b, t[a]? = some b := ⟨_, List.getElem?_eq_getElem (by rw [HN.out]; exact ha)⟩
                  have hgd : t.getD a 0 = b := by rw [List.getD, hb]; rfl
                  rw [hgd] at hb0
                  have hbn : ((s[a]'hks).toNat : Int) = (b.toNat : Int) := by rw [hb0]
                  have j2 : (a : Int) < (n : Int) := by omega
                  have hb' : t[j + 1 + (a - (j + 1))]? = some b := by rw [HSub.out]; exact hb
                  clear hb0 hgd hb
                  by_cases b34 : b = 34
                  · subst b34
                    have n1 : (((34 : UInt8).toNat : Int)) = 34 := rfl
                    rw [n1] at hbn
                    obtain ⟨C, hC⟩ : ∃ C, (t[a + 1]? == some 34) = C := ⟨_, rfl⟩
                    have HC : Hid ((t[a + 1]? == some 34) = C) := hC
                    have Hb' : Hid (t[j + 1 + (a - (j + 1))]? = some 34) := hb'
                    clear hC hb'
                    go_upto_region 13 with fail
                    go_cut [56] (fun s wc => s = .bool C ∧ wc = wz)
                    case first =>
                      by_cases h2 : a + 1 < n
                      · have hks2 : a + 1 < s.size := by omega
                        have hc0 := byte_atA HS.out hks2
                        obtain ⟨c, hc⟩ : ∃ c, t[a + 1]? = some c := ⟨_, List.getElem?_eq_getElem (by rw [HN.out]; exact h2)⟩
                        have hgc : t.getD (a + 1) 0 = c := by rw [List.getD, hc]; rfl
                        rw [hgc] at hc0
                        have hcn : ((s[a + 1]'hks2).toNat : Int) = (c.toNat : Int) := by rw [hc0]
                        have i3 : (a : Int) + 1 < (n : Int) := by omega
                        have HCc : Hid (C = (c == 34)) := by show _ = _; rw [← HC.out, hc]; rfl
                        clear hc0 hgc hc
                        by_cases c34 : c = 34
                        · subst c34
                          rw [n1] at hcn
                          go_wp2_with fail
                          go_meet
                          case rel => exact ⟨by rw [HCc.out]; rfl, rfl⟩
                        · obtain ⟨B, hB⟩ : ∃ B : Int, (c.toNat : Int) = B := ⟨_, rfl⟩
                          have g34 : (B == 34) = false := by have := byteN (k := 34) c34 (by omega); simp; omega
                          have HC2 : Hid (C = false) := by show _ = _; rw [HCc.out]; simp [c34]
                          rw [hB] at hcn
                          clear hB c34
                          go_wp2_with fail
                          go_meet
                          case rel => exact ⟨by rw [HC2.out], rfl⟩
                      · have HC2 : Hid (C = false) := by
                          show _ = _
                          rw [← HC.out, List.getElem?_eq_none (by rw [HN.out]; omega)]
                          rfl
                        go_wp2_with fail
                        go_meet
                        case rel => exact ⟨by rw [HC2.out], rfl⟩
                    case rest =>
                      obtain ⟨rfl, hwc⟩ := hcut
                      rw [hwc]
                      clear hwc
                      cases C
                      · have hne : t[j + 1 + (a - (j + 1)) + 1]? ≠ some 34 := by
                          rw [HSub.out]
                          intro e
                          have := HC.out
                          rw [e] at this
                          cases this
                        have hql := QuoW.last HP.out.1 Hb'.out hne
                        obtain ⟨T, hT⟩ : ∃ T, stopU m (t.drop (a + 1)) = T := ⟨_, rfl⟩
                        have HT : Hid (stopU m (t.drop (a + 1)) = T) := hT
                        have e1 : a - (j + 1) + 1 + 1 = a + 1 - j := by omega
                        have HFF : Hid (fieldU m (t.drop j) = if T = true then .ok f (a + 1 - j) else .bad 2 (a + 1 - j)) := by
                          show _ = _
                          rw [HFq.out, hql]
                          dsimp only
                          rw [List.drop_drop, show j + 1 + (a - (j + 1) + 1) = a + 1 by omega, hT, e1]
                        clear hne hql hT e1 HFq hbn hks
                        go_upto_region 18 with fail
                        go_cut [86] (fun s wc => s = .bool (!T) ∧ Ext wz wc)
                        case first =>
                          by_cases h2 : a + 1 < n
                          · have hks : a + 1 < s.size := by omega
                            have hb0 := byte_atA HS.out hks
                            obtain ⟨b, hb⟩ : ∃ b, t[a + 1]? = some b := ⟨_, List.getElem?_eq_getElem (by rw [HN.out]; exact h2)⟩
                            have hgd : t.getD (a + 1) 0 = b := by rw [List.getD, hb]; rfl
                            rw [hgd] at hb0
                            have hbn : ((s[a + 1]'hks).toNat : Int) = (b.toNat : Int) := by rw [hb0]
                            have HTb : Hid (T = ((b == m) || decide (endU (t.drop (a + 1)) ≠ 0))) := by show _ = _; rw [← HT.out]; exact HStop.out (a + 1) h2 b hb
                            have HBm := HBM.out b
                            obtain ⟨B, hB⟩ : ∃ B : Int, (b.toNat : Int) = B := ⟨_, rfl⟩
                            obtain ⟨D, hD⟩ : ∃ D, (b == m) = D := ⟨_, rfl⟩
                            rw [hB] at hbn HBm
                            rw [hD] at HBm HTb
                            have hbm2 : (B != M) = !D := by rw [← HBm]; rfl
                            obtain ⟨E, hE⟩ : ∃ E, endU (t.drop (a + 1)) = E := ⟨_, rfl⟩
                            have HCE : Hid (∀ W, Calls Tryd.prog 10 #[.string s, .int .i64 ((a : Int) + 1)] W fun e w' => e = .returned (.int .i64 (E : Nat)) ∧ w' = W) := fun W => by rw [← hE]; exact HEnd.out (a + 1) W (by omega)
                            rw [hE] at HTb
                            have i3 : (a : Int) + 1 < (n : Int) := by omega
                            clear hb0 hgd hb hB hD hE
                            cases D
                            · simp only [Bool.not_false] at hbm2
                              by_cases hE0 : E = 0
                              · subst hE0
                                obtain rfl : T = false := by rw [HTb.out]; rfl
                                go_wp2_with fail
                                go_quiet (first | (go_at_call 10; exact Calls.quiet_of_same (HCE.out _)))
                                go_wp2_with fail
                                go_meet
                                case rel => exact ⟨rfl, xdNs (xr _) _⟩
                              · obtain rfl : T = true := by rw [HTb.out]; simp [hE0]
                                have gE : ((E : Int) == 0) = false := by simp [hE0]
                                go_wp2_with fail
                                go_quiet (first | (go_at_call 10; exact Calls.quiet_of_same (HCE.out _)))
                                go_wp2_with fail
                                go_meet
                                case rel => exact ⟨rfl, xdNs (xr _) _⟩
                            · simp only [Bool.not_true] at hbm2
                              obtain rfl : T = true := by rw [HTb.out]; rfl
                              go_wp2_with fail
                              go_quiet (first | (go_at_call 10; exact Calls.quiet_of_same (HCE.out _)))
                              go_wp2_with fail
                              go_meet
                              case rel => exact ⟨rfl, xdNs (xr _) _⟩
                          · obtain rfl : T = true := by
                              rw [← HT.out, List.drop_eq_nil_of_le (by rw [HN.out]; omega)]
                              rfl
                            have i3 : decide ((a : Int) + 1 < (n : Int)) = false := decide_eq_false (by omega)
                            go_wp2_with fail
                            go_quiet (first | (go_at_call 10; exact Calls.quiet_of_same (HEnd.out _ _ han)))
                            go_wp2_with fail
                            go_meet
                            case rel => exact ⟨rfl, xdNs (xr _) _⟩
                        case rest =>
                          obtain ⟨rfl, e4⟩ := hcut
                          rename World => w4
                          have HO4 : Hid (OwnY w4 wp.heap.size (.slice p3 z3 c3) f ∧ Ext wp w4) := ⟨ownY_later HOY.out e4, xt HE3.out e4⟩
                          clear HOY HE3 e4
                          cases T
                          · obtain ⟨rfl, hra, rfl⟩ := HBad.out 2 (a + 1 - j) HFF.out
                            obtain rfl : ra = a + 1 := by omega
                            obtain ⟨XE, BX⟩ := fin3 (HA.out.1.later (xt HXw.out HO4.out.2)) (xt HA.out.2.1 (xt HXw.out HO4.out.2)) (.int .i64 2) (.int .i64 ((a : Int) + 1)) (.slice none 0 0)
                            have HFN : Hid _ := And.intro XE BX
                            have A3 := HA.out.1.later (xt HXw.out HO4.out.2)
                            obtain ⟨q0, f0⟩ := A3 0 _ rfl
                            obtain ⟨q1, f1⟩ := A3 1 _ rfl
                            obtain ⟨q2, f2⟩ := A3 2 _ rfl
                            clear XE BX A3 HO4 hra HP
                            go_wp2_with fail
                            obtain ⟨XE, ⟨d0, d1, d2⟩, _⟩ := HFN.out
                            exact bodyPost_ret (v := .agg #[.int .i64 2, .int .i64 ((a : Int) + 1), .slice none 0 0]) (by simp [results, Tryd.results4, go_sem, d0, d1, d2]) rfl ⟨_, rfl, RowsX.nil _ _, XE⟩
                          · have HF2 : Hid (fieldU m (t.drop j) = .ok f (a + 1 - j)) := HFF.out
                            clear HFF HP
                            go_wp2_with fail
                            go_meet
                            case rel => exact ⟨a + 1, z3, c3, p3, f, by omega, by go_num, rfl, ⟨by omega, HF2.out⟩, HO4.out.1, HO4.out.2⟩
                      · have hc2 : t[a + 1]? = some 34 := by simpa using HC.out
                        have h2 : a + 1 < n := by rw [← HN.out]; exact (List.getElem?_eq_some_iff.1 hc2).1
                        have hks2 : a + 1 < s.size := by omega
                        have hc0 := byte_atA HS.out hks2
                        have hgc : t.getD (a + 1) 0 = 34 := by rw [List.getD, hc2]; rfl
                        rw [hgc] at hc0
                        have hcn : ((s[a + 1]'hks2).toNat : Int) = 34 := by rw [hc0]; rfl
                        have i3 : (a : Int) + 1 < (n : Int) := by omega
                        obtain ⟨p5, z5, c5, w5, hrun, O5, X5⟩ := put_byte wp wz _ _ 34 HE3.out HOY.out (by have := HP.out.2; omega)
                        rw [n1] at hrun
                        have e1 : a + 2 - (j + 1) = (a - (j + 1)) + 2 := by omega
                        have HK : Hid ((QuoW t (j + 1) (a + 2 - (j + 1)) (f ++ [34]) ∧ (f ++ [34]).length ≤ a + 2) ∧ OwnY w5 wp.heap.size (.slice p5 z5 c5) (f ++ [34]) ∧ Ext wp w5) := by
                          refine ⟨⟨?_, by have := HP.out.2; rw [List.length_append, List.length_singleton]; omega⟩, O5, X5⟩
                          rw [e1]
                          exact HP.out.1.twice Hb'.out (by rw [HSub.out]; exact hc2)
                        obtain ⟨wa, hwa⟩ : ∃ wa, wz.alloc (.cells #[.int .u8 34] 5) = wa := ⟨_, rfl⟩
                        rw [hwa] at hrun
                        clear HOY HE3 HP O5 X5 hc0 hgc hc2 e1 HFq hbn
                        go_wp2_with (at_builtin; refine Lib.wpList_append_run _ rfl _ _ _ _ rfl _ _ rfl rfl _ _ hrun ?_)
                        go_wp2_with fail
                        go_roundw
                        case rel => exact ⟨a + 2, z5, c5, p5, f ++ [34], by omega, by omega, by go_num, rfl, HK.out.1, HK.out.2.1, HK.out.2.2⟩
                        case measure => simp [intOf]; omega
                  · obtain ⟨B, hB⟩ : ∃ B : Int, (b.toNat : Int) = B := ⟨_, rfl⟩
                    have g34 : (B == 34) = false := by have := byteN (k := 34) b34 (by omega); simp; omega
                    obtain ⟨p5, z5, c5, w5, hrun, O5, X5⟩ := put_byte wp wz _ _ b HE3.out HOY.out (by have := HP.out.2; omega)
                    have e1 : a + 1 - (j + 1) = (a - (j + 1)) + 1 := by omega
                    have HK : Hid ((QuoW t (j + 1) (a + 1 - (j + 1)) (f ++ [b]) ∧ (f ++ [b]).length ≤ a + 1) ∧ OwnY w5 wp.heap.size (.slice p5 z5 c5) (f ++ [b]) ∧ Ext wp w5) := by
                      refine ⟨⟨?_, by have := HP.out.2; rw [List.length_append, List.length_singleton]; omega⟩, O5, X5⟩
                      rw [e1]
                      exact HP.out.1.more hb' b34
                    rw [hB] at hbn hrun
                    obtain ⟨wa, hwa⟩ : ∃ wa, wz.alloc (.cells #[.int .u8 B] 5) = wa := ⟨_, rfl⟩
                    rw [hwa] at hrun
                    clear HOY HE3 HP O5 X5 hB b34 e1 HFq hb'
                    go_wp2_with (at_builtin; refine Lib.wpList_append_run _ rfl _ _ _ _ rfl _ _ rfl rfl _ _ hrun ?_)
                    go_wp2_with fail
                    go_roundw
                    case rel => exact ⟨a + 1, z5, c5, p5, f ++ [b], by omega, by omega, by go_num, rfl, HK.out.1, HK.out.2.1, HK.out.2.2⟩
                    case measure => simp [intOf]; omega
                · obtain rfl : a = n := by omega
                  have hqn := QuoW.none HP.out.1 (by rw [HSub.out, HN.out]; exact Nat.le_refl _)
                  obtain ⟨rfl, hra, rfl⟩ := HBad.out 1 _ (by rw [HFq.out, hqn])
                  obtain rfl : ra = a := by rw [hra, List.length_drop, HN.out]; omega
                  obtain ⟨XE, BX⟩ := fin3 (HA.out.1.later (xt HXw.out HE3.out)) (xt HA.out.2.1 (xt HXw.out HE3.out)) (.int .i64 1) (.int .i64 (ra : Int)) (.slice none 0 0)
                  have HFN : Hid _ := And.intro XE BX
                  have A3 := HA.out.1.later (xt HXw.out HE3.out)
                  obtain ⟨q0, f0⟩ := A3 0 _ rfl
                  obtain ⟨q1, f1⟩ := A3 1 _ rfl
                  obtain ⟨q2, f2⟩ := A3 2 _ rfl
                  clear XE BX A3 hra HP HOY HE3 hqn HFq
                  go_wp2_with fail
                  obtain ⟨XE, ⟨d0, d1, d2⟩, _⟩ := HFN.out
                  exact bodyPost_ret (v := .agg #[.int .i64 1, .int .i64 (ra : Int), .slice none 0 0]) (by simp [results, Tryd.results4, go_sem, d0, d1, d2]) rfl ⟨_, rfl, RowsX.nil _ _, XE⟩
          case rest =>
            obtain ⟨a, z3, c3, p3, f, han, rfl, rfl, HF, HOY, HE3⟩ := hcut
            rename World => w1
            obtain ⟨g, rfl⟩ : ∃ g', g = g' + 1 := ⟨g - 1, by have := HR.out.1; omega⟩
            have HC := conv_text HOY.out
            obtain ⟨p4, z4, c4, w2, hrun, O2, X2⟩ := put_x wo w1 _ row f (xt HE2.out HE3.out) (ownX_later HO.out.1 HE3.out) (by have := HO.out.2; omega)
            obtain ⟨A, hA⟩ : ∃ A, pfxB (t.drop a) [m] = A := ⟨_, rfl⟩
            have HAA : Hid (pfxB (t.drop a) [m] = A) := hA
            have HRv : Hid (RW = if A = true then rowU m t g (a + 1) (row ++ [f]) else .ok (row ++ [f]) (a + endU (t.drop a))) := by
              show _ = _
              have h1 := HR.out.2
              unfold rowU at h1
              have h2 := HF.out
              rw [h2.2] at h1
              dsimp only at h1
              have e : j + (a - j) = a := by omega
              rw [e, hA] at h1
              exact h1.symm
            have HO2 : Hid (OwnX w2 wo.heap.size (.slice p4 z4 c4) (row ++ [f]) ∧ Ext wo w2 ∧ (row ++ [f]).length ≤ a + 1) := ⟨O2, X2, by have h1 := HO.out.2; have h2 := HF.out.1; rw [List.length_append, List.length_singleton]; omega⟩
            have HGg : Hid (n + 1 ≤ j + (g + 1)) := HR.out.1
            have HJA : Hid (j ≤ a) := HF.out.1
            obtain ⟨sf, hsf⟩ : ∃ sf : ByteArray, (⟨f.toArray⟩ : ByteArray) = sf := ⟨_, rfl⟩
            change (convert 31 9 (.slice p3 z3 c3)).run Tryd.prog w1 = .ok (.string ⟨f.toArray⟩) w1 at HC
            change (Builtin.append_ #[30, 30] 30 #[.slice p2 z2 c2, .slice (some ⟨w1.heap.size, 0, none⟩) 1 1]).run Tryd.prog (w1.alloc (.cells #[.string ⟨f.toArray⟩] 9)) = _ at hrun
            rw [hsf] at HC hrun
            obtain ⟨wa, ha⟩ : ∃ wa, w1.alloc (.cells #[.string sf] 9) = wa := ⟨_, rfl⟩
            rw [ha] at hrun
            clear hA HR HF HOY HE3 HO HE2 O2 X2 hsf HQ
            go_upto_region 26 with (at_builtin; refine Lib.wpList_append_run _ rfl _ _ _ _ rfl _ _ rfl rfl _ _ hrun ?_)
            clear hrun ha HC
            go_cut [137] (fun s wc => s = .bool A ∧ Ext w2 wc)
            case first =>
              by_cases hj : a < n
              · have hks : a < s.size := by omega
                have hb0 := byte_atA HS.out hks
                obtain ⟨b, hb⟩ : ∃ b, t[a]? = some b := ⟨_, List.getElem?_eq_getElem (by rw [HN.out]; exact hj)⟩
                have hgd : t.getD a 0 = b := by rw [List.getD, hb]; rfl
                rw [hgd] at hb0
                have hbn : ((s[a]'hks).toNat : Int) = (b.toNat : Int) := by rw [hb0]
                have HD : Hid (A = (b == m)) := by
                  show _ = _
                  rw [← HAA.out, dropC hb, pfxB_one]
                  rfl
                obtain ⟨B, hB⟩ : ∃ B : Int, (b.toNat : Int) = B := ⟨_, rfl⟩
                rw [hB] at hbn
                have HBM : Hid ((B == M) = A) := by
                  show _ = _
                  rw [HD.out, ← hB, ← HM.out]
                  cases h : (b == m) with
                  | true => simp at h; subst h; simp
                  | false => simp at h; rw [beq_eq_false_iff_ne]; intro e; exact h (UInt8.toNat_inj.1 (by omega))
                have j2 : (a : Int) < (n : Int) := by omega
                have hbm := HBM.out
                clear hb0 hgd hb hB HBM
                go_wp2_with fail
                go_quiet (fail)
                go_wp2_with fail
                go_meet
                case rel => exact ⟨rfl, xdNs (xr _) _⟩
              · obtain rfl : a = n := by omega
                obtain rfl : A = false := by
                  rw [← HAA.out, List.drop_eq_nil_of_le (by rw [HN.out]; exact Nat.le_refl _)]
                  rfl
                go_wp2_with fail
                go_quiet (fail)
                go_wp2_with fail
                go_meet
                case rel => exact ⟨rfl, xdNs (xr _) _⟩
            case rest =>
              obtain ⟨rfl, e3⟩ := hcut
              rename World => w3
              have HO3 : Hid (OwnX w3 wo.heap.size (.slice p4 z4 c4) (row ++ [f]) ∧ Ext wo w3) := ⟨ownX_later HO2.out.1 e3, xt HO2.out.2.1 e3⟩
              cases A
              · have HRv2 : Hid (RW = .ok (row ++ [f]) (a + endU (t.drop a))) := HRv.out
                obtain ⟨hk1, hk2, hk3, hk4⟩ := HOK.out _ _ HRv2.out
                have HNX2 : Hid (rowsU m t G (a + endU (t.drop a)) (L ++ [row ++ [f]]) = ⟨re, ra, rl⟩) := by have := HNX.out; rw [HRv2.out] at this; exact this
                have S3 : Sole w.heap.size wo w3 := ⟨HO3.out.2.os, HO3.out.2.tape, HO3.out.2.output, HO3.out.2.size, fun k _ hl => HO3.out.2.block k hl⟩
                obtain ⟨v', w4, hrun, RX, GW, hrb⟩ := RowsX.app (L := L) (l := row ++ [f]) HX.out.1 S3 (Nat.lt_succ_self _) HO3.out.1 hk3 (by have := HX.out.2; omega) (by have h1 := HA.out.2.2; have h2 := HE.out.size; omega)
                obtain ⟨p5, c5, hv5, hc5⟩ := RX.slice
                subst hv5
                have X4 : Ext wx w4 := ext_rowY (w0 := wx) (xt (xt HE.out HO3.out.2) (x1 w3 _)) GW (fun r hr => by have := hrb r hr; have := HA.out.2.2; omega)
                have HK : Hid (RowsX w4 (w.heap.size + 1) (.slice p5 (L ++ [row ++ [f]]).length c5) (L ++ [row ++ [f]]) ∧ (L ++ [row ++ [f]]).length ≤ a + endU (t.drop a)) := ⟨RX, by have := HX.out.2; rw [List.length_append, List.length_singleton]; omega⟩
                have HX4 : Hid (Ext wx w4) := X4
                have CE := HEnd.out a w4 han
                obtain ⟨E, hE⟩ : ∃ E, endU (t.drop a) = E := ⟨_, rfl⟩
                rw [hE] at HNX2 HK CE hk1 hk2
                obtain ⟨Z5, hZ5⟩ : ∃ Z5, (L ++ [row ++ [f]]).length = Z5 := ⟨_, rfl⟩
                rw [hZ5] at hrun hc5
                have HK2 : Hid (RowsX w4 (w.heap.size + 1) (.slice p5 Z5 c5) (L ++ [row ++ [f]]) ∧ (L ++ [row ++ [f]]).length ≤ a + E) := by rw [← hZ5]; exact HK.out
                obtain ⟨wa, ha⟩ : ∃ wa, w3.alloc (.cells #[.slice p4 z4 c4] 30) = wa := ⟨_, rfl⟩
                rw [ha] at hrun
                clear HRv HRv2 S3 RX GW hrb X4 HK hE hZ5 HO2 HO3 HX HE e3
                go_wp2_with (at_builtin; refine Lib.wpList_append_run _ rfl _ _ _ _ rfl _ _ rfl rfl _ _ hrun ?_)
                clear hrun ha
                refine CE.mono ?_
                rintro _ w5 ⟨rfl, rfl⟩
                go_wp2_with fail
                go_roundw
                case rel => exact ⟨a + E, G, Z5, c5, p5, L ++ [row ++ [f]], hk2, by go_num, rfl, HK2, ⟨by have := HGf.out; omega, HNX2.out⟩, HX4⟩
                case measure => simp [intOf]; omega
              · have HRv2 : Hid (RW = rowU m t g (a + 1) (row ++ [f])) := HRv.out
                have ha1 : a < n := by
                  rcases Nat.lt_or_ge a n with h | h
                  · exact h
                  · have := HAA.out
                    rw [List.drop_eq_nil_of_le (by rw [HN.out]; exact h), pfxB_one] at this
                    simp at this
                have hja := HJA.out
                have hgg := HGg.out
                have HL3 : Hid ((row ++ [f]).length ≤ a + 1) := HO2.out.2.2
                clear HRv HO2 e3
                go_wp2_with fail
                go_roundw
                case rel => exact ⟨a + 1, g, z4, c4, p4, row ++ [f], by omega, by omega, by go_num, rfl, ⟨HO3.out.1, HL3.out⟩, ⟨by omega, HRv2.out.symm⟩, HO3.out.2⟩
                case measure => simp [intOf]; omega
    · obtain rfl : i = n := by omega
      obtain ⟨rfl, rfl, rfl⟩ : re = 0 ∧ ra = 0 ∧ rl = L := by
        obtain ⟨h1, h2⟩ := HG.out
        obtain ⟨g, rfl⟩ : ∃ g, G = g + 1 := ⟨G - 1, by omega⟩
        unfold rowsU at h2
        rw [if_pos (by rw [HN.out]; exact Nat.le_refl _)] at h2
        injection h2 with a b c
        exact ⟨a.symm, b.symm, c.symm⟩
      obtain ⟨XE, BX⟩ := fin3 (HA.out.1.later HE.out) (xt HA.out.2.1 HE.out) (.int .i64 0) (.int .i64 0) (.slice p z c)
      have HRX : Hid (RowsX (((wr.setCell ⟨w.heap.size, 0, none⟩ (.int .i64 0)).setCell ⟨w.heap.size, 1, none⟩ (.int .i64 0)).setCell ⟨w.heap.size, 2, none⟩ (.slice p z c)) (w.heap.size + 1) (.slice p z c) rl ∧ Ext w (((wr.setCell ⟨w.heap.size, 0, none⟩ (.int .i64 0)).setCell ⟨w.heap.size, 1, none⟩ (.int .i64 0)).setCell ⟨w.heap.size, 2, none⟩ (.slice p z c)) ∧ Box3 (((wr.setCell ⟨w.heap.size, 0, none⟩ (.int .i64 0)).setCell ⟨w.heap.size, 1, none⟩ (.int .i64 0)).setCell ⟨w.heap.size, 2, none⟩ (.slice p z c)) w.heap.size (.int .i64 0) (.int .i64 0) (.slice p z c)) := ⟨((HX.out.1.farB (Nat.lt_succ_self _) 0 _).farB (Nat.lt_succ_self _) 1 _).farB (Nat.lt_succ_self _) 2 _, XE, BX⟩
      have A3 := HA.out.1.later HE.out
      obtain ⟨c0, f0⟩ := A3 0 _ rfl
      obtain ⟨c1, f1⟩ := A3 1 _ rfl
      obtain ⟨c2, f2⟩ := A3 2 _ rfl
      clear XE BX A3 HX HG HE
      go_wp2_with fail
      obtain ⟨RX, XE, ⟨d0, d1, d2⟩, _⟩ := HRX.out
      exact bodyPost_ret (v := .agg #[.int .i64 0, .int .i64 0, .slice p z c]) (by simp [results, Tryd.results4, go_sem, d0, d1, d2]) rfl ⟨_, rfl, RX, XE⟩

end Go.Proofs.YtkjbeciiecljgaaDoor
