/-
  l1DivD: the quotient and the remainder by limbs.
-/
import Derived.Test.YtjlojlgdkfpcdaaGreatDoorMg7
import Derived.Laws.AppendOwnNone
import Derived.Deep.DeepCutAuto
import Derived.Deep.CutBlock
set_option maxRecDepth 8000
namespace Go.Proofs.YtjlojlgdkfpcdaaGreatDoor
open Go.RowKit
theorem Row.of_owns {w : World} {base : Nat} {v : Value} {fs : List Int} (h : w.ownsRow base 146 1 v fs.length (fs.map (Value.int .u32))) : Row w v fs ∧ Off base v := by
  obtain ⟨_, h | ⟨g, cap, cur, rfl, hbg, hg, h1, h2, h3, h4⟩⟩ := h
  · obtain ⟨rfl, h0⟩ := h
    exact ⟨⟨none, 0, by rw [h0], by omega, by decide, .inl ⟨rfl, rfl⟩⟩, Off.nil _ _ _⟩
  · refine ⟨?_, Off.at hbg⟩
    refine ⟨_, cap, rfl, h1, by unfold maxLen at h2; exact h2, .inr ⟨g, 0, rfl, fun i hi => ?_⟩⟩
    rw [Nat.zero_add, cell_of_row w g i cur 146 (0, 0) hg]
    have e : cur[i]? = (cur.toList.take (fs.length * 1))[i]? := by
      rw [List.getElem?_take, if_pos (by omega)]; simp
    rw [e, h4]
    simp [hi]
theorem zKD {a b : Int} (h : a ≤ b) : cmpI a b ≤ 0 := by unfold cmpI; split <;> (try split) <;> omega
theorem Row.set {w : World} {v : Value} {xs : List Int} {n : Nat} (h : Row w v xs) (hv : Off (n + 1) v) (j : Nat) (u : Value) : Row (w.setCell ⟨n, j, none⟩ u) v xs := by
  obtain ⟨p, cap, rfl, h1, h2, h3⟩ := h
  refine ⟨p, cap, rfl, h1, h2, ?_⟩
  rcases h3 with h3 | ⟨b, o, rfl, h3⟩
  · exact .inl h3
  · refine .inr ⟨b, o, rfl, fun i hi => ?_⟩
    have hb := hv _ _ _ rfl
    simp only at hb
    rw [World.cell?_setCell_other _ _ _ _ (fun e => by have := congrArg Addr.block e; simp only at this; omega)]
    exact h3 i hi
theorem zAH.l {w w1 : World} {g : Nat} {fs : List Int} (h : zAH w g fs) (hb : Ext w w1) : zAH w1 g fs := World.rowIs.of_block h (hb.block g (World.rowIs.lt h))
def DivOut (w : World) (vq vr : Value) (a b : Int) (n : Nat) : Prop := (∃ qs, Row w vq qs ∧ Lim qs ∧ lv qs = a / b) ∧ zBZ w vr (a % b) n
theorem Row.some {w : World} {v : Value} {xs : List Int} (h : Row w v xs) (hn : 0 < xs.length) : ∃ b o cap, v = .slice (some ⟨b, o, none⟩) xs.length cap ∧ xs.length ≤ cap ∧ C32 w b o xs := by
  obtain ⟨p, cap, rfl, h1, h2, h3⟩ := h
  rcases h3 with ⟨_, h3⟩ | ⟨b, o, rfl, h3⟩
  · omega
  · exact ⟨b, o, cap, rfl, h1, h3⟩
theorem zLO {va vb : Value} {xs ys : List Int} (c : Int) (hc : cmpI (lv xs) (lv ys) = c) (w : World) (ha : Row w va xs) (hb : Row w vb ys) (lx : Lim xs) (ly : Lim ys) (tx : Top xs) (ty : Top ys) :
    Calls Tryz.prog 174 #[va, vb] w fun e w' => e = .returned (.int .i64 c) ∧ Ext w w' := by
  rw [← hc]; exact zE3 w ha hb lx ly tx ty
theorem top_pos {bs : List Int} (lb : Lim bs) (tb : Top bs) (hb : 0 < bs.length) : 0 < bs.getD (bs.length - 1) 0 := by
  have h1 := tb.resolve_left (by omega)
  have := lb.getD (bs.length - 1)
  omega
theorem zO9 {a b : Int} (h : ¬ a < b) : 0 ≤ cmpI a b := by unfold cmpI; rw [if_neg h]; split <;> omega
set_option maxRecDepth 8000 in
set_option maxHeartbeats 8000000 in
theorem zW2 {va vb : Value} {xs ys : List Int} (w : World) (ha : Row w va xs) (hb : Row w vb ys) (lx : Lim xs) (ly : Lim ys) (ty : Top ys) (hy : 0 < ys.length) (nx : xs.length ≤ 100000000) (ny : ys.length ≤ 100000000) :
    Calls Tryz.prog 172 #[va, vb] w fun e w' => ∃ vq vr, e = .returned (.tuple #[vq, vr]) ∧ DivOut w' vq vr (lv xs) (lv ys) (ys.length + 1) ∧ Ext w w' := by
  have hb' := hb
  obtain ⟨b1, o1, c1, rfl, hc1, kb⟩ := hb'.some hy
  obtain ⟨m1, hm1⟩ : ∃ m1, ys.length = m1 + 1 := ⟨ys.length - 1, by omega⟩
  have kbt := kb m1 (by omega)
  obtain ⟨bt0, ebt⟩ : ∃ t, ys.getD m1 0 = t := ⟨_, rfl⟩
  rw [ebt] at kbt
  have bt1 := ly.getD m1
  rw [ebt] at bt1
  have bt2 : bt0 ≠ 0 := by
    rcases ty with ty | ty
    · omega
    · rw [hm1, Nat.add_sub_cancel, ebt] at ty; exact ty
  obtain ⟨kk, hkk⟩ : ∃ k : Int, 1000000000 / (bt0 + 1) = k := ⟨_, rfl⟩
  have k0 : 1 ≤ kk := by rw [← hkk]; exact (Int.le_ediv_iff_mul_le (by omega)).2 (by omega)
  have k1 : kk ≤ 500000000 := by rw [← hkk]; exact Int.le_of_lt_add_one ((Int.ediv_lt_iff_lt_mul (by omega)).2 (by omega))
  obtain ⟨bt3, bt4⟩ := bt1
  have bt5 : 0 < bt0 := by omega
  have hm1' : (ys.length : Int) = (m1 : Int) + 1 := by omega
  rw [hm1]
  rw [hm1] at hb
  have ny' : m1 + 1 ≤ 100000000 := by omega
  clear kb ebt bt2 hm1' hb'
  go_enter Tryz.func172, Tryz.ntmps172
  go_wp2_with fail
  refine (zFQ kk w ha lx (by omega) (by omega) (by omega)).mono ?_
  rintro e w1 ⟨v1, rfl, ⟨aa, A1, A2, A3, A4, A5⟩, e1, _⟩
  go_wp2_with fail
  refine (zFQ kk w1 (hb.l e1) ly (by omega) (by omega) (by omega)).mono ?_
  rintro e w2 ⟨v2, rfl, ⟨bs, B1, B2, B3, B4, B5⟩, e2, _⟩
  have X2 := xt e1 e2
  replace A1 := A1.l e2
  obtain ⟨pa, ca, rfl, ca1, ca2, ca3⟩ := A1
  have bpos : 0 < lv bs := by
    rw [B4]
    have h1 := zPK ly hy (by rcases ty with ty | ty <;> first | omega | exact ty)
    have h2 := zDX (ys.length - 1)
    exact Int.mul_pos (by omega) (by omega)
  have bl : 0 < bs.length := by
    by_cases h : 0 < bs.length
    · exact h
    · have : bs = [] := List.eq_nil_of_length_eq_zero (by omega)
      rw [this] at bpos; simp [lv] at bpos
  have BR := B1
  obtain ⟨b2, o2, c2, rfl, hc2, kb2⟩ := B1.some bl
  have FIN : Hid (∀ (q R r c : Int), lv aa = q * lv bs + R → 0 ≤ R → R < lv bs → R = r * kk + c → 0 ≤ c → c < kk → q = lv xs / lv ys ∧ r = lv xs % lv ys) := fun q R r c h1 h2 h3 h4 h5 h6 => by
    rw [A4, B4] at h1
    rw [B4] at h3
    exact zTH (by omega) h1 h2 h3 h4 h5 h6
  have hmk := run_make_row' (P := Tryz.prog) 101 146 (.int .u32 0) 4 Tryz.underlying101 zF0 rfl .i64 .i64 (aa.length + 1) (by omega) (by omega)
  have ec : ((aa.length + 1 : Nat) : Int) = (aa.length : Int) + 1 := by omega
  rw [ec] at hmk
  have BL : Hid (bs.length ≤ m1 + 2) := by rw [hm1] at B5; exact B5
  have na : aa.length ≤ 100000001 := by omega
  have nb : bs.length ≤ 100000001 := by omega
  clear ec e1 e2 A4 B4 A5 B5 A3 ha hb lx ly ty hy nx ny kbt bt3 bt4 bt5 hkk hc1 hm1
  go_wp2_with fail
  go_loopw [9, 10] (fun r i wr => ∃ (n : Nat) (qs : List Int) (R : Int), n ≤ aa.length ∧ i = .int .i64 ((n : Int) - 1) ∧ zAH wr w2.heap.size qs ∧ zEM aa bs qs n R ∧ zBZ wr r R bs.length ∧ Off (w2.heap.size + 1) r ∧ Ext w2 wr) (fun _ i _ => (intOf i + 1).toNat)
  case atStart => exact ⟨aa.length, List.replicate (aa.length + 1) 0, 0, Nat.le_refl _, rfl, zAH.zeros _ _, zEM.start aa bs bpos, ⟨[], ⟨none, 0, rfl, Nat.le_refl _, by decide, .inl ⟨rfl, rfl⟩⟩, Lim.nil, .inl rfl, rfl, Nat.zero_le _⟩, Off.nil _ _ _, x1 _ _⟩
  case round =>
    obtain ⟨n, qs, R, hn, rfl, ho, hD, hr, hoff, X⟩ := hrel
    clear hmk
    by_cases h0 : n = 0
    · subst h0
      obtain ⟨rs, Rr, lr, tr, er, nr⟩ := hr
      have DN := hD.done
      have HF : Hid (∀ r c : Int, R = r * kk + c → 0 ≤ c → c < kk → lv qs = lv xs / lv ys ∧ r = lv xs % lv ys) := fun r c h1 h2 h3 => FIN.out (lv qs) R r c DN hD.2.2.2.1 hD.2.2.2.2.1 h1 h2 h3
      have QR : Hid (Row wr (.slice (some ⟨w2.heap.size, 0, none⟩) (aa.length + 1) (aa.length + 1)) qs ∧ Lim qs) := ⟨by have := ho.row (by rw [hD.1]; omega); rw [hD.1] at this; exact this, hD.2.1⟩
      obtain ⟨pr, cr, rfl, cr1, cr2, cr3⟩ := Rr
      have rl : rs.length ≤ 100000001 := by omega
      have hmk2 := run_make_row' (P := Tryz.prog) 101 146 (.int .u32 0) 4 Tryz.underlying101 zF0 rfl .i64 .i64 rs.length (by omega) (by omega)
      have NR : Hid _ := nr
      clear ho hD DN tr nr hoff A2 B1 B2 B3 BR kb2 ca3
      go_wp2_with fail
      go_loopw [15, 16] (fun c i wq => ∃ (n : Nat) (fs : List Int) (cc : Int), n ≤ rs.length ∧ i = .int .i64 ((n : Int) - 1) ∧ c = .int .u64 cc ∧ zAH wq wr.heap.size fs ∧ zG1 rs fs kk n cc ∧ Ext wr wq) (fun _ i _ => (intOf i + 1).toNat)
      case atStart => exact ⟨rs.length, List.replicate rs.length 0, 0, Nat.le_refl _, rfl, rfl, zAH.zeros _ _, zG1.start rs kk (by omega), x1 _ _⟩
      case round =>
        rename World => wq
        obtain ⟨n, fs, cc, hn', rfl, rfl, ho, hA, Xq⟩ := hrel
        clear hmk2
        by_cases h0 : n = 0
        · subst h0
          have dn := hA.done
          rw [er] at dn
          obtain ⟨f1, f2⟩ := HF.out (lv fs) cc dn hA.2.2.1 hA.2.2.2.1
          have fl := hA.1
          have RF := ho.row (by rw [fl]; omega)
          rw [fl] at RF
          have LF := hA.2.1
          have HE : Hid (lv qs = lv xs / lv ys ∧ lv fs = lv xs % lv ys ∧ fs.length = rs.length) := ⟨f1, f2, fl⟩
          clear f1 f2 dn ho hA er fl cr3
          go_wp2_with fail
          refine (zEJ _ RF LF).mono ?_
          rintro e w9 ⟨v9, rfl, ⟨zs, Z1, Z2, Z3, Z4, Z5⟩, e9, _⟩
          have ZZ : Hid (DivOut w9 (.slice (some ⟨w2.heap.size, 0, none⟩) (aa.length + 1) (aa.length + 1)) v9 (lv xs) (lv ys) (m1 + 1 + 1)) := ⟨⟨qs, (QR.out.1.l Xq).l e9, QR.out.2, HE.out.1⟩, ⟨zs, Z1, Z2, Z3, by rw [Z4, HE.out.2.1], by have := HE.out.2.2; have := NR.out; have := BL.out; omega⟩⟩
          have XX := xt (xt (xt X2 X) Xq) e9
          clear Z1 Z2 Z3 Z4 Z5 RF LF
          go_wp2_with fail
          go_ret2
          exact ⟨_, _, rfl, ZZ.out, XX⟩
        · obtain ⟨i, rfl⟩ : ∃ i, n = i + 1 := ⟨n - 1, by omega⟩
          have hi : i < rs.length := by omega
          obtain ⟨br, orr, rfl, kr⟩ : ∃ b o, pr = some ⟨b, o, none⟩ ∧ C32 wr b o rs := by
            rcases cr3 with ⟨_, h⟩ | h
            · omega
            · exact h
          have ky := (kr.l Xq) i hi
          obtain ⟨y, ey⟩ : ∃ y, rs.getD i 0 = y := ⟨_, rfl⟩
          rw [ey] at ky
          have hy := lr.getD i
          rw [ey] at hy
          obtain ⟨y0, y1⟩ := hy
          obtain ⟨ST, s0, s1⟩ := hA.step hi lr (by omega) ey
          have c0 := hA.2.2.1
          have c1 := hA.2.2.2.1
          have fl := hA.1
          have kz := World.rowIs.frozen ho i
          have kf := World.rowIs.cell ho (i := i) (by omega)
          have HQ : Hid (zAH wq wr.heap.size fs ∧ i < fs.length) := ⟨ho, by omega⟩
          have ei : (((i + 1 : Nat) : Int) - 1) = (i : Int) := by omega
          rw [ei]
          have hi' : (i : Int) < (rs.length : Int) := by omega
          have HS := hid ST
          clear ho hA ST er kr cr3 ei h0 fl ey
          go_wp2_with fail
          go_roundw
          case rel => exact ⟨i, _, _, by omega, by go_num, rfl, HQ.out.1.set _ HQ.out.2 _, HS.out, xset Xq (Nat.le_refl _) _⟩
          case measure => simp [intOf]
    · obtain ⟨j, rfl⟩ : ∃ j, n = j + 1 := ⟨n - 1, by omega⟩
      have hj : j < aa.length := by omega
      have hj' : (j : Int) < (aa.length : Int) := by omega
      obtain ⟨ba, oa, rfl, ka⟩ : ∃ b o, pa = some ⟨b, o, none⟩ ∧ C32 w2 b o aa := by
        rcases ca3 with ⟨_, h⟩ | h
        · omega
        · exact h
      have kx := (ka.l X) j hj
      obtain ⟨x, ex⟩ : ∃ x, aa.getD j 0 = x := ⟨_, rfl⟩
      rw [ex] at kx
      have hx := A2.getD j
      rw [ex] at hx
      obtain ⟨x0, x1'⟩ := hx
      have ej : (((j + 1 : Nat) : Int) - 1) = (j : Int) := by omega
      rw [ej]
      obtain ⟨rs, Rr, lr, tr, er, nr⟩ := hr
      have L3 : Lim (x :: rs) := Lim.cons x0 x1' lr
      have HL3 : Hid (Lim (x :: rs) ∧ lv (x :: rs) = x + 1000000000 * R ∧ (x :: rs).length ≤ bs.length + 1) := ⟨L3, by simp only [lv]; rw [er], by simp; omega⟩
      have HD : Hid (zEM aa bs qs (j + 1) R ∧ aa.getD j 0 = x ∧ zAH wr w2.heap.size qs ∧ Lim aa) := ⟨hD, ex, ho, A2⟩
      have R0 : Hid (0 ≤ R ∧ R < lv bs) := ⟨hD.2.2.2.1, hD.2.2.2.2.1⟩
      have ql : qs.length = aa.length + 1 := hD.1
      have QL : Hid _ := ql
      have NEXT : Hid (∀ (v : Value) (w3 : World), w3.ownsRow wr.heap.size 146 1 v (1 + rs.length) ([.int .u32 x] ++ rs.map (Value.int .u32)) → Row w3 v (x :: rs) ∧ Off wr.heap.size v) := fun v w3 h => by
        apply Row.of_owns (base := wr.heap.size)
        have e1 : (x :: rs).length = 1 + rs.length := by simp; omega
        rw [e1]
        simpa using h
      obtain ⟨pr, cr, rfl, cr1, cr2, cr3⟩ := Rr
      have O1 := World.ownsRow_lit (base := wr.heap.size) (e := 146) (size := 1) wr #[.int .u32 x] 1 (Nat.le_refl _) (by decide) rfl
      obtain ⟨i0, hi, hz0, hz1, hz2⟩ := info_parts zF0
      have rl : rs.length ≤ 100000001 := by omega
      clear ka ca3 h0 ej L3 lr tr er hD ex ho ql hoff
      go_upto_region 11 with fail
      go_cut [11] (fun v wc => (Row wc v (x :: rs) ∧ Off wr.heap.size v) ∧ Ext wr wc)
      case first =>
        clear kx hj' x0 x1' A2 B1 B2 B3 BR kb2
        rcases cr3 with ⟨rfl, rfl⟩ | ⟨br, orr, rfl, kr⟩
        · have hrs : rs = [] := List.eq_nil_of_length_eq_zero (by omega)
          subst hrs
          go_wp2_with (at_builtin; refine wpList_append_own_none rfl _ _ 101 rfl wr.heap.size 146 i0 1 Tryz.underlying101 hi _ _ _ rfl O1 rfl ?_)
          go_meet
          case rel => exact ⟨NEXT.out _ _ (by simpa using O1), x1 _ _⟩
        · have K2 : Hid (∀ (i : Nat) (u : Value), (rs.map (Value.int .u32))[i]? = some u → (wr.alloc (.cells #[.int .u32 x] 146)).cell? ((⟨br, orr, none⟩ : Addr).add i) = some u) := fun i u hu => by
            have hi' : i < rs.length := by
              have := (List.getElem?_eq_some_iff.1 hu).1
              simpa using this
            have := (kr.l (x1 wr (.cells #[.int .u32 x] 146))) i hi'
            rw [Addr.add_lit, this]
            simp [hi'] at hu
            simp [hi', hu]
          go_wp2_with (at_builtin; refine wpList_append_own _ rfl _ _ 101 rfl wr.heap.size 146 i0 (.int .u32 0) 1 4 Tryz.underlying101 hi hz0 hz1 hz2 rfl (by decide) _ _ _ rfl O1 ⟨br, orr, none⟩ rs.length cr (rs.map (Value.int .u32)) rfl (by simp) K2.out (by intro u hu; simp at hu; obtain ⟨y, _, rfl⟩ := hu; rfl) (by unfold maxLen; omega) (by omega) (by simp) ?_; intro v' w3 hown3 hgrow3 _)
          go_meet
          case rel => exact ⟨NEXT.out _ _ hown3, (x1 _ _).grown hgrow3 (by simp) (fun k hk => by cases hk; exact Nat.le_refl _)⟩
      case rest =>
        obtain ⟨⟨hN, oN⟩, X3⟩ := hcut
        have WS : w2.heap.size < wr.heap.size := World.rowIs.lt HD.out.2.2.1
        rename World => wa
        clear O1 NEXT kx cr3 hi hz0 hz1 hz2
        obtain ⟨L3, V3, N3⟩ := HL3.out
        go_wp2_with fail
        refine (zEJ _ hN L3).mono ?_
        rintro e w4 ⟨v4, rfl, ⟨ys4, Y1, Y2, Y3, Y4, Y5⟩, e4, o4'⟩
        have O4 : Hid (Off (w2.heap.size + 1) v4) := o4' _ (oN.less WS)
        have OWS : Hid (w2.heap.size + 1 ≤ w4.heap.size) := Nat.le_trans WS (xt X3 e4).size
        clear o4' oN
        have X4 := xt X (xt X3 e4)
        rw [V3] at Y4
        obtain ⟨rho, hrho⟩ : ∃ z, x + 1000000000 * R = z := ⟨_, rfl⟩
        rw [hrho] at Y4
        have rho0 : 0 ≤ rho := by rw [← Y4]; exact zCY Y2
        have rho1 : rho < lv bs * 1000000000 := by have := R0.out; omega
        have HRHO : Hid (x + 1000000000 * R = rho ∧ lv ys4 = rho ∧ 0 ≤ rho ∧ rho < lv bs * 1000000000) := ⟨hrho, Y4, rho0, rho1⟩
        have Y6 : ys4.length ≤ bs.length + 1 := by omega
        have OW : Hid (zAH w4 w2.heap.size qs) := (HD.out.2.2.1.l X3).l e4
        have BR4 := BR.l X4
        clear hN X3 e4 X L3 V3 N3 HL3 hrho
        by_cases hlt : lv ys4 < lv bs
        · have NX : Hid (zEM aa bs qs j rho) := by
            have := HD.out.1.skip hj HD.out.2.2.2 HD.out.2.1 (by rw [HRHO.out.1, ← HRHO.out.2.1]; exact hlt)
            rwa [HRHO.out.1] at this
          have CO : Hid (zBZ w4 v4 rho bs.length) := ⟨ys4, Y1, Y2, Y3, Y4, by
            by_cases h : ys4.length ≤ bs.length
            · exact h
            · have := zHR B2 Y2 (Y3.resolve_left (by omega)) (by omega)
              omega⟩
          have CM : Hid (∀ w5, Ext w4 w5 → Calls Tryz.prog 174 #[v4, .slice (some ⟨b2, o2, none⟩) bs.length c2] w5 fun e w' => e = .returned (.int .i64 (-1)) ∧ Ext w5 w') := fun w5 x5 => zLO (-1) (zEK hlt) w5 (Y1.l x5) (BR4.l x5) Y2 B2 Y3 B3
          clear Y1 Y2 Y3 Y4 BR4 HD
          go_wp2_with fail
          refine (CM.out _ (xr _)).mono ?_
          rintro e w5 ⟨rfl, e5⟩
          go_wp2_with fail
          go_roundw
          case rel => exact ⟨j, qs, rho, by omega, by go_num, OW.out.l e5, NX.out, CO.out.l e5, O4.out, xt X4 e5⟩
          case measure => simp [intOf]
        · have hge : lv bs ≤ lv ys4 := by omega
          have nl : bs.length ≤ ys4.length := zCR B2 Y2 B3 hge
          obtain ⟨b4, o4, c4, rfl, hc4, k4⟩ := Y1.some (by omega)
          have OFF : Hid (Off (w2.heap.size + 1) (.slice (some ⟨b4, o4, none⟩) ys4.length c4)) := O4.out
          have bt0 := top_pos B2 B3 bl
          obtain ⟨bl1, hbl⟩ : ∃ m, bs.length = m + 1 := ⟨bs.length - 1, by omega⟩
          obtain ⟨s1, hs1⟩ : ∃ m, ys4.length = m + 1 := ⟨ys4.length - 1, by omega⟩
          have kb4 := (kb2.l X4) bl1 (by omega)
          have k41 := k4 s1 (by omega)
          have bt1 := B2.getD bl1
          have rt1 := Y2.getD s1
          have eb : bs.length - 1 = bl1 := by omega
          have es : ys4.length - 1 = s1 := by omega
          rw [eb] at bt0
          have GU1 : Hid (ys4.length = bs.length → ∀ t, 0 ≤ t → t * lv bs ≤ rho → t ≤ ys4.getD s1 0 / bs.getD bl1 0) := fun h t t0 ht => by
            have := guess1 Y2 B2 h bl (by rw [eb]; exact bt0) t0 (by rw [Y4]; exact ht)
            rw [es, eb] at this; exact this
          have GU2 : Hid (ys4.length = bs.length + 1 → ∀ t, 0 ≤ t → t * lv bs ≤ rho → t ≤ (ys4.getD s1 0 * 1000000000 + ys4.getD (ys4.length - 2) 0) / bs.getD bl1 0) := fun h t t0 ht => by
            have := guess2 Y2 B2 h bl (by rw [eb]; exact bt0) t0 (by rw [Y4]; exact ht)
            rw [es, eb] at this; exact this
          have GC : Hid (∀ t, 0 ≤ t → t * lv bs ≤ rho → t ≤ 999999999) := fun t _ ht => zT2 bpos HRHO.out.2.2.2 ht
          have CM : Hid (∀ w5, Ext w4 w5 → Calls Tryz.prog 174 #[.slice (some ⟨b4, o4, none⟩) ys4.length c4, .slice (some ⟨b2, o2, none⟩) bs.length c2] w5 fun e w' => (∃ c, 0 ≤ c ∧ e = .returned (.int .i64 c)) ∧ Ext w5 w') := fun w5 x5 => by
            refine (zE3 w5 (Y1.l x5) (BR4.l x5) Y2 B2 Y3 B3).mono ?_
            rintro e w' ⟨rfl, hx⟩
            exact ⟨⟨_, zO9 hlt, rfl⟩, hx⟩
          have HY : Hid (Row w4 (.slice (some ⟨b4, o4, none⟩) ys4.length c4) ys4 ∧ Lim ys4 ∧ Top ys4 ∧ lv ys4 = rho) := ⟨Y1, Y2, Y3, Y4⟩
          have HB : Hid (Row w4 (.slice (some ⟨b2, o2, none⟩) bs.length c2) bs ∧ Lim bs ∧ Top bs) := ⟨BR4, B2, B3⟩
          have R2 := Y2.getD (ys4.length - 2)
          have kr2 : ys4.length = bs.length + 1 → w4.cell? ⟨b4, o4 + (ys4.length - 2), none⟩ = some (.int .u32 (ys4.getD (ys4.length - 2) 0)) := fun h => k4 (ys4.length - 2) (by omega)
          obtain ⟨rt, hrt⟩ : ∃ z, ys4.getD s1 0 = z := ⟨_, rfl⟩
          obtain ⟨bt, hbt⟩ : ∃ z, bs.getD bl1 0 = z := ⟨_, rfl⟩
          obtain ⟨r2, hr2⟩ : ∃ z, ys4.getD (ys4.length - 2) 0 = z := ⟨_, rfl⟩
          rw [hrt] at k41 rt1 GU1 GU2
          rw [hbt] at kb4 bt1 bt0 GU1 GU2
          rw [hr2] at GU2 kr2 R2
          obtain ⟨rt2, rt3⟩ := rt1
          obtain ⟨bt2, bt3⟩ := bt1
          obtain ⟨r20, r21⟩ := R2
          have hI : ((bs.length : Int) - 1) = (bl1 : Int) := by omega
          have hJ : ((ys4.length : Int) - 1) = (s1 : Int) := by omega
          have hI' : (bl1 : Int) < (bs.length : Int) := by omega
          have hJ' : (s1 : Int) < (ys4.length : Int) := by omega
          have yl : (ys4.length : Int) ≤ 100000003 := by omega
          have YL : Hid (ys4.length = bs.length ∨ ys4.length = bs.length + 1) := by show _ ∨ _; omega
          have yl0 : ys4.length ≤ 100000003 := by omega
          clear Y1 Y2 Y3 Y4 Y5 Y6 BR4 hge hlt nl k4 hrt hbt hr2 eb es hbl hs1 kb2
          go_wp2_with fail
          refine (CM.out _ (xr _)).mono ?_
          rintro e w5 ⟨⟨c, c0, rfl⟩, e5⟩
          replace kb4 := cell_later e5 kb4
          replace k41 := cell_later e5 k41
          rcases YL.out with hlen | hlen
          · have G0 : 0 ≤ rt / bt := Int.ediv_nonneg rt2 (by omega)
            have G1 : rt / bt < 1000000000 := Int.lt_of_le_of_lt (Int.ediv_le_self _ rt2) rt3
            have GU : Hid (∀ t, 0 ≤ t → t * lv bs ≤ rho → t ≤ rt / bt) := GU1.out hlen
            have hc1 : ¬ (bs.length : Int) < (ys4.length : Int) := by omega
            clear GU1 GU2 GC kr2 hlen YL
            go_upto_region 20 with fail
            clear kb4 k41 hI hJ hI' hJ' rt2 rt3 bt2 bt3 r20 r21
            go_wp2_with fail
            refine (zFQ _ _ (HB.out.1.l e5) HB.out.2.1 (by omega) G0 G1).mono ?_
            rintro e w6 ⟨v6, rfl, hC6, e6, o6⟩
            have X6 := xt e5 e6
            have O6 : Hid (Off (w2.heap.size + 1) v6) := o6.less (by have := e5.size; have := OWS.out; omega)
            have RP : Hid (∀ (w7 : World), Ext w4 w7 → Row w7 (.slice (some ⟨b4, o4, none⟩) ys4.length c4) ys4) := fun w7 x7 => HY.out.1.l x7
            have BP : Hid (∀ (w7 : World), Ext w4 w7 → Row w7 (.slice (some ⟨b2, o2, none⟩) bs.length c2) bs) := fun w7 x7 => HB.out.1.l x7
            clear o6
            go_wp2_with fail
            go_loopw [12, 13] (fun v p wq => ∃ g : Int, v = .int .u64 g ∧ 0 ≤ g ∧ g < 1000000000 ∧ Hid (∀ t, 0 ≤ t → t * lv bs ≤ rho → t ≤ g) ∧ zBZ wq p (lv bs * g) (bs.length + 1) ∧ Off (w2.heap.size + 1) p ∧ Ext w4 wq) (fun v _ _ => (intOf v).toNat)
            case atStart => exact ⟨_, rfl, G0, G1, GU, hC6, O6.out, X6⟩
            case round =>
              rename World => wq
              obtain ⟨g, rfl, g0, g1, gU, ⟨ps, P1, P2, P3, P4, P5⟩, oP, Xq⟩ := hrel
              clear hC6 e6 X6 O6 G0 G1 GU
              obtain ⟨_, Y2, Y3, Y4⟩ := HY.out
              obtain ⟨_, B2', B3'⟩ := HB.out
              by_cases hgt : rho < lv bs * g
              · have gp : 1 ≤ g := zG6 (B := lv bs) HRHO.out.2.2.1 g0 (by rw [Int.mul_comm]; exact hgt)
                have hle : lv bs ≤ lv bs * g := by
                  have : lv bs * 1 ≤ lv bs * g := Int.mul_le_mul_of_nonneg_left gp (by omega)
                  omega
                have pl : bs.length ≤ ps.length := zCR B2' P2 B3' (by rw [P4]; exact hle)
                have NU : Hid (∀ t, 0 ≤ t → t * lv bs ≤ rho → t ≤ g - 1) := zF5 gU.out (by rw [Int.mul_comm]; exact hgt)
                have VE : Hid (lv ps - lv bs = lv bs * (g - 1)) := by show _ = _; rw [P4, Int.mul_sub, Int.mul_one]
                have PL : Hid _ := P5
                have HPS : Hid (Lim ps ∧ Top ps ∧ lv ps = lv bs * g ∧ lv bs ≤ lv bs * g ∧ rho < lv bs * g ∧ bs.length ≤ ps.length ∧ Lim ys4 ∧ Top ys4 ∧ lv ys4 = rho ∧ Lim bs ∧ Row wq _ ps) := ⟨P2, P3, P4, hle, hgt, pl, Y2, Y3, Y4, B2', P1⟩
                clear P1 P2 P3 P4 P5 hgt hle pl gU Y2 Y3 Y4 B2' B3' oP
                go_wp2_with fail
                refine (zLO 1 (zE2 (by rw [HPS.out.2.2.1, HPS.out.2.2.2.2.2.2.2.2.1]; exact HPS.out.2.2.2.2.1)) _ HPS.out.2.2.2.2.2.2.2.2.2.2 (RP.out _ Xq) HPS.out.1 HPS.out.2.2.2.2.2.2.1 HPS.out.2.1 HPS.out.2.2.2.2.2.2.2.1).mono ?_
                rintro e w6 ⟨rfl, e6⟩
                go_wp2_with fail
                refine (zD3 _ (HPS.out.2.2.2.2.2.2.2.2.2.2.l e6) (BP.out _ (xt Xq e6)) HPS.out.1 HPS.out.2.2.2.2.2.2.2.2.2.1 (by have := PL.out; omega) HPS.out.2.2.2.2.2.1 (by rw [HPS.out.2.2.1]; exact HPS.out.2.2.2.1)).mono ?_
                rintro e w7 ⟨v7, fs, rfl, F1, F2, F3, F4, e7, kq, cq, rfl⟩
                have FF : Hid (lv fs = lv ps - lv bs ∧ fs.length = ps.length) := ⟨F3, F4⟩
                clear F3 F4
                go_wp2_with fail
                refine (zEJ _ F1 F2).mono ?_
                rintro e w8 ⟨v8, rfl, ⟨zs, Z1, Z2, Z3, Z4, Z5⟩, e8, o8⟩
                have ZZ : Hid (zBZ w8 v8 (lv bs * (g - 1)) (bs.length + 1) ∧ Off (w2.heap.size + 1) v8) := ⟨⟨zs, Z1, Z2, Z3, by rw [Z4, FF.out.1, VE.out], by have := PL.out; have := FF.out.2; omega⟩, o8 _ (Off.at (by have := OWS.out; have := Xq.size; have := e6.size; omega))⟩
                clear Z1 Z2 Z3 Z4 Z5 F1 F2 o8
                go_wp2_with fail
                go_roundw
                case rel => exact ⟨g - 1, rfl, by omega, by omega, NU.out, ZZ.out.1, ZZ.out.2, xt Xq (xt (xt e6 e7) e8)⟩
                case measure => simp [intOf]; omega
              · have hge' : lv bs * g ≤ rho := by omega
                have hge2 : lv ps ≤ lv ys4 := by rw [P4, Y4]; exact hge'
                have pl : ps.length ≤ ys4.length := zCR P2 Y2 P3 (by rw [P4, Y4]; exact hge')
                have stp := zF4 g0 gU.out
                rw [Int.mul_comm] at stp
                have NX : Hid (zEM aa bs (qs.set j g) j (rho - lv bs * g)) := HD.out.1.step (g := g) (R' := rho - lv bs * g) hj HD.out.2.1 g0 g1 (by rw [HRHO.out.1, Int.mul_comm g]) (by omega) stp
                have HPS : Hid (Lim ps ∧ Top ps ∧ lv ys4 - lv ps = rho - lv bs * g ∧ lv ps ≤ lv ys4 ∧ ps.length ≤ ys4.length ∧ Lim ys4 ∧ Top ys4 ∧ rho - lv bs * g < lv bs ∧ Lim bs ∧ Row wq _ ps ∧ Off _ _) := ⟨P2, P3, by rw [P4, Y4], hge2, pl, Y2, Y3, stp, B2', P1, oP⟩
                have jq : j < qs.length := by have := QL.out; omega
                have jq' : (j : Int) < (aa.length : Int) + 1 := by omega
                clear P1 P2 P3 P4 P5 hgt hge' hge2 pl gU stp Y2 Y3 Y4 B2' B3' oP
                go_wp2_with fail
                refine (zE3 _ HPS.out.2.2.2.2.2.2.2.2.2.1 (RP.out _ Xq) HPS.out.1 HPS.out.2.2.2.2.2.1 HPS.out.2.1 HPS.out.2.2.2.2.2.2.1).mono ?_
                rintro e w6 ⟨rfl, e6⟩
                obtain ⟨c', hc', hcc⟩ : ∃ c, cmpI (lv ps) (lv ys4) = c ∧ c ≤ 0 := ⟨_, rfl, zKD HPS.out.2.2.2.1⟩
                rw [hc']
                have OW6 := (OW.out.l Xq).l e6
                have kz := World.rowIs.frozen OW6 j
                have kf := World.rowIs.cell OW6 (i := j) jq
                have OW7 := OW6.set j jq g
                have X46 := xt Xq e6
                have RP7 := (RP.out _ X46).set (OFF.out) j (.int .u32 g)
                have PP7 := (HPS.out.2.2.2.2.2.2.2.2.2.1.l e6).set (HPS.out.2.2.2.2.2.2.2.2.2.2) j (.int .u32 g)
                have X7 := xset (xt X4 X46) (p := ⟨w2.heap.size, j, none⟩) (Nat.le_refl _) (.int .u32 g)
                have HW7 : Hid (∀ u, w6.setCell ⟨w2.heap.size, j, none⟩ (.int .u32 g) = u → Row u _ ys4 ∧ Row u _ ps ∧ zAH u w2.heap.size (qs.set j g) ∧ Ext w2 u) := fun u h => by rw [← h]; exact ⟨RP7, PP7, OW7, X7⟩
                clear RP7 PP7 OW7 X7 OW6 hc'
                obtain ⟨u7, hu7⟩ : ∃ u, w6.setCell ⟨w2.heap.size, j, none⟩ (.int .u32 g) = u := ⟨_, rfl⟩
                obtain ⟨V1, V2, V3, V4⟩ := HW7.out u7 hu7
                have HV : Hid (Row u7 _ ys4 ∧ Row u7 _ ps ∧ zAH u7 w2.heap.size (qs.set j g) ∧ Ext w2 u7) := ⟨V1, V2, V3, V4⟩
                clear V1 V2 V3 V4 HW7
                go_wp2_with fail
                refine (zD3 _ HV.out.1 HV.out.2.1 HPS.out.2.2.2.2.2.1 HPS.out.1 (by omega) HPS.out.2.2.2.2.1 HPS.out.2.2.2.1).mono ?_
                rintro e w8 ⟨v8, fs, rfl, F1, F2, F3, F4, e8, kq, cq, rfl⟩
                have FF : Hid _ := F3
                clear F3 F4 hu7 kz kf
                go_wp2_with fail
                refine (zEJ _ F1 F2).mono ?_
                rintro e w9 ⟨v9, rfl, ⟨zs, Z1, Z2, Z3, Z4, Z5⟩, e9, o9⟩
                have ZZ : Hid (zBZ w9 v9 (rho - lv bs * g) bs.length ∧ Off (w2.heap.size + 1) v9) := ⟨⟨zs, Z1, Z2, Z3, by rw [Z4, FF.out, HPS.out.2.2.1], by
                  by_cases h : zs.length ≤ bs.length
                  · exact h
                  · have := zHR HPS.out.2.2.2.2.2.2.2.2.1 Z2 (Z3.resolve_left (by omega)) (by omega)
                    rw [Z4, FF.out, HPS.out.2.2.1] at this
                    have := HPS.out.2.2.2.2.2.2.2.1
                    omega⟩, o9 _ (Off.at (by have := OWS.out; have := HV.out.2.2.2.size; have := World.rowIs.lt HV.out.2.2.1; omega))⟩
                clear Z1 Z2 Z3 Z4 Z5 F1 F2 o9
                go_wp2_with fail
                go_roundw
                case rel => exact ⟨j, qs.set j g, rho - lv bs * g, by omega, by go_num, (HV.out.2.2.1.l e8).l e9, NX.out, ZZ.out.1, ZZ.out.2, xt (xt HV.out.2.2.2 e8) e9⟩
                case measure => simp [intOf]
          · have kr3 := cell_later e5 (kr2 hlen)
            obtain ⟨s2, hs2⟩ : ∃ m, ys4.length = m + 2 := ⟨ys4.length - 2, by omega⟩
            have es2 : ys4.length - 2 = s2 := by omega
            rw [es2] at kr3
            have hJ2 : ((ys4.length : Int) - 2) = (s2 : Int) := by omega
            have hJ3 : (s2 : Int) < (ys4.length : Int) := by omega
            have hc1 : (bs.length : Int) < (ys4.length : Int) := by omega
            have GU' : Hid (∀ t, 0 ≤ t → t * lv bs ≤ rho → t ≤ (rt * 1000000000 + r2) / bt) := GU2.out hlen
            have q0 : 0 ≤ (rt * 1000000000 + r2) / bt := Int.ediv_nonneg (by omega) (by omega)
            by_cases hcap : 1000000000 ≤ (rt * 1000000000 + r2) / bt
            · have G0 : (0 : Int) ≤ 999999999 := by decide
              have G1 : (999999999 : Int) < 1000000000 := by decide
              have GU : Hid (∀ t, 0 ≤ t → t * lv bs ≤ rho → t ≤ 999999999) := GC.out
              clear GU1 GU2 GC kr2 hlen YL GU' hs2 es2
              go_upto_region 20 with fail
              clear kb4 k41 hI hJ hI' hJ' rt2 rt3 bt2 bt3 r20 r21
              go_wp2_with fail
              refine (zFQ _ _ (HB.out.1.l e5) HB.out.2.1 (by omega) G0 G1).mono ?_
              rintro e w6 ⟨v6, rfl, hC6, e6, o6⟩
              have X6 := xt e5 e6
              have O6 : Hid (Off (w2.heap.size + 1) v6) := o6.less (by have := e5.size; have := OWS.out; omega)
              have RP : Hid (∀ (w7 : World), Ext w4 w7 → Row w7 (.slice (some ⟨b4, o4, none⟩) ys4.length c4) ys4) := fun w7 x7 => HY.out.1.l x7
              have BP : Hid (∀ (w7 : World), Ext w4 w7 → Row w7 (.slice (some ⟨b2, o2, none⟩) bs.length c2) bs) := fun w7 x7 => HB.out.1.l x7
              clear o6
              go_wp2_with fail
              go_loopw [12, 13] (fun v p wq => ∃ g : Int, v = .int .u64 g ∧ 0 ≤ g ∧ g < 1000000000 ∧ Hid (∀ t, 0 ≤ t → t * lv bs ≤ rho → t ≤ g) ∧ zBZ wq p (lv bs * g) (bs.length + 1) ∧ Off (w2.heap.size + 1) p ∧ Ext w4 wq) (fun v _ _ => (intOf v).toNat)
              case atStart => exact ⟨_, rfl, G0, G1, GU, hC6, O6.out, X6⟩
              case round =>
                rename World => wq
                obtain ⟨g, rfl, g0, g1, gU, ⟨ps, P1, P2, P3, P4, P5⟩, oP, Xq⟩ := hrel
                clear hC6 e6 X6 O6 G0 G1 GU
                obtain ⟨_, Y2, Y3, Y4⟩ := HY.out
                obtain ⟨_, B2', B3'⟩ := HB.out
                by_cases hgt : rho < lv bs * g
                · have gp : 1 ≤ g := zG6 (B := lv bs) HRHO.out.2.2.1 g0 (by rw [Int.mul_comm]; exact hgt)
                  have hle : lv bs ≤ lv bs * g := by
                    have : lv bs * 1 ≤ lv bs * g := Int.mul_le_mul_of_nonneg_left gp (by omega)
                    omega
                  have pl : bs.length ≤ ps.length := zCR B2' P2 B3' (by rw [P4]; exact hle)
                  have NU : Hid (∀ t, 0 ≤ t → t * lv bs ≤ rho → t ≤ g - 1) := zF5 gU.out (by rw [Int.mul_comm]; exact hgt)
                  have VE : Hid (lv ps - lv bs = lv bs * (g - 1)) := by show _ = _; rw [P4, Int.mul_sub, Int.mul_one]
                  have PL : Hid _ := P5
                  have HPS : Hid (Lim ps ∧ Top ps ∧ lv ps = lv bs * g ∧ lv bs ≤ lv bs * g ∧ rho < lv bs * g ∧ bs.length ≤ ps.length ∧ Lim ys4 ∧ Top ys4 ∧ lv ys4 = rho ∧ Lim bs ∧ Row wq _ ps) := ⟨P2, P3, P4, hle, hgt, pl, Y2, Y3, Y4, B2', P1⟩
                  clear P1 P2 P3 P4 P5 hgt hle pl gU Y2 Y3 Y4 B2' B3' oP
                  go_wp2_with fail
                  refine (zLO 1 (zE2 (by rw [HPS.out.2.2.1, HPS.out.2.2.2.2.2.2.2.2.1]; exact HPS.out.2.2.2.2.1)) _ HPS.out.2.2.2.2.2.2.2.2.2.2 (RP.out _ Xq) HPS.out.1 HPS.out.2.2.2.2.2.2.1 HPS.out.2.1 HPS.out.2.2.2.2.2.2.2.1).mono ?_
                  rintro e w6 ⟨rfl, e6⟩
                  go_wp2_with fail
                  refine (zD3 _ (HPS.out.2.2.2.2.2.2.2.2.2.2.l e6) (BP.out _ (xt Xq e6)) HPS.out.1 HPS.out.2.2.2.2.2.2.2.2.2.1 (by have := PL.out; omega) HPS.out.2.2.2.2.2.1 (by rw [HPS.out.2.2.1]; exact HPS.out.2.2.2.1)).mono ?_
                  rintro e w7 ⟨v7, fs, rfl, F1, F2, F3, F4, e7, kq, cq, rfl⟩
                  have FF : Hid (lv fs = lv ps - lv bs ∧ fs.length = ps.length) := ⟨F3, F4⟩
                  clear F3 F4
                  go_wp2_with fail
                  refine (zEJ _ F1 F2).mono ?_
                  rintro e w8 ⟨v8, rfl, ⟨zs, Z1, Z2, Z3, Z4, Z5⟩, e8, o8⟩
                  have ZZ : Hid (zBZ w8 v8 (lv bs * (g - 1)) (bs.length + 1) ∧ Off (w2.heap.size + 1) v8) := ⟨⟨zs, Z1, Z2, Z3, by rw [Z4, FF.out.1, VE.out], by have := PL.out; have := FF.out.2; omega⟩, o8 _ (Off.at (by have := OWS.out; have := Xq.size; have := e6.size; omega))⟩
                  clear Z1 Z2 Z3 Z4 Z5 F1 F2 o8
                  go_wp2_with fail
                  go_roundw
                  case rel => exact ⟨g - 1, rfl, by omega, by omega, NU.out, ZZ.out.1, ZZ.out.2, xt Xq (xt (xt e6 e7) e8)⟩
                  case measure => simp [intOf]; omega
                · have hge' : lv bs * g ≤ rho := by omega
                  have hge2 : lv ps ≤ lv ys4 := by rw [P4, Y4]; exact hge'
                  have pl : ps.length ≤ ys4.length := zCR P2 Y2 P3 (by rw [P4, Y4]; exact hge')
                  have stp := zF4 g0 gU.out
                  rw [Int.mul_comm] at stp
                  have NX : Hid (zEM aa bs (qs.set j g) j (rho - lv bs * g)) := HD.out.1.step (g := g) (R' := rho - lv bs * g) hj HD.out.2.1 g0 g1 (by rw [HRHO.out.1, Int.mul_comm g]) (by omega) stp
                  have HPS : Hid (Lim ps ∧ Top ps ∧ lv ys4 - lv ps = rho - lv bs * g ∧ lv ps ≤ lv ys4 ∧ ps.length ≤ ys4.length ∧ Lim ys4 ∧ Top ys4 ∧ rho - lv bs * g < lv bs ∧ Lim bs ∧ Row wq _ ps ∧ Off _ _) := ⟨P2, P3, by rw [P4, Y4], hge2, pl, Y2, Y3, stp, B2', P1, oP⟩
                  have jq : j < qs.length := by have := QL.out; omega
                  have jq' : (j : Int) < (aa.length : Int) + 1 := by omega
                  clear P1 P2 P3 P4 P5 hgt hge' hge2 pl gU stp Y2 Y3 Y4 B2' B3' oP
                  go_wp2_with fail
                  refine (zE3 _ HPS.out.2.2.2.2.2.2.2.2.2.1 (RP.out _ Xq) HPS.out.1 HPS.out.2.2.2.2.2.1 HPS.out.2.1 HPS.out.2.2.2.2.2.2.1).mono ?_
                  rintro e w6 ⟨rfl, e6⟩
                  obtain ⟨c', hc', hcc⟩ : ∃ c, cmpI (lv ps) (lv ys4) = c ∧ c ≤ 0 := ⟨_, rfl, zKD HPS.out.2.2.2.1⟩
                  rw [hc']
                  have OW6 := (OW.out.l Xq).l e6
                  have kz := World.rowIs.frozen OW6 j
                  have kf := World.rowIs.cell OW6 (i := j) jq
                  have OW7 := OW6.set j jq g
                  have X46 := xt Xq e6
                  have RP7 := (RP.out _ X46).set (OFF.out) j (.int .u32 g)
                  have PP7 := (HPS.out.2.2.2.2.2.2.2.2.2.1.l e6).set (HPS.out.2.2.2.2.2.2.2.2.2.2) j (.int .u32 g)
                  have X7 := xset (xt X4 X46) (p := ⟨w2.heap.size, j, none⟩) (Nat.le_refl _) (.int .u32 g)
                  have HW7 : Hid (∀ u, w6.setCell ⟨w2.heap.size, j, none⟩ (.int .u32 g) = u → Row u _ ys4 ∧ Row u _ ps ∧ zAH u w2.heap.size (qs.set j g) ∧ Ext w2 u) := fun u h => by rw [← h]; exact ⟨RP7, PP7, OW7, X7⟩
                  clear RP7 PP7 OW7 X7 OW6 hc'
                  obtain ⟨u7, hu7⟩ : ∃ u, w6.setCell ⟨w2.heap.size, j, none⟩ (.int .u32 g) = u := ⟨_, rfl⟩
                  obtain ⟨V1, V2, V3, V4⟩ := HW7.out u7 hu7
                  have HV : Hid (Row u7 _ ys4 ∧ Row u7 _ ps ∧ zAH u7 w2.heap.size (qs.set j g) ∧ Ext w2 u7) := ⟨V1, V2, V3, V4⟩
                  clear V1 V2 V3 V4 HW7
                  go_wp2_with fail
                  refine (zD3 _ HV.out.1 HV.out.2.1 HPS.out.2.2.2.2.2.1 HPS.out.1 (by omega) HPS.out.2.2.2.2.1 HPS.out.2.2.2.1).mono ?_
                  rintro e w8 ⟨v8, fs, rfl, F1, F2, F3, F4, e8, kq, cq, rfl⟩
                  have FF : Hid _ := F3
                  clear F3 F4 hu7 kz kf
                  go_wp2_with fail
                  refine (zEJ _ F1 F2).mono ?_
                  rintro e w9 ⟨v9, rfl, ⟨zs, Z1, Z2, Z3, Z4, Z5⟩, e9, o9⟩
                  have ZZ : Hid (zBZ w9 v9 (rho - lv bs * g) bs.length ∧ Off (w2.heap.size + 1) v9) := ⟨⟨zs, Z1, Z2, Z3, by rw [Z4, FF.out, HPS.out.2.2.1], by
                    by_cases h : zs.length ≤ bs.length
                    · exact h
                    · have := zHR HPS.out.2.2.2.2.2.2.2.2.1 Z2 (Z3.resolve_left (by omega)) (by omega)
                      rw [Z4, FF.out, HPS.out.2.2.1] at this
                      have := HPS.out.2.2.2.2.2.2.2.1
                      omega⟩, o9 _ (Off.at (by have := OWS.out; have := HV.out.2.2.2.size; have := World.rowIs.lt HV.out.2.2.1; omega))⟩
                  clear Z1 Z2 Z3 Z4 Z5 F1 F2 o9
                  go_wp2_with fail
                  go_roundw
                  case rel => exact ⟨j, qs.set j g, rho - lv bs * g, by omega, by go_num, (HV.out.2.2.1.l e8).l e9, NX.out, ZZ.out.1, ZZ.out.2, xt (xt HV.out.2.2.2 e8) e9⟩
                  case measure => simp [intOf]
            · have G0 := q0
              have G1 : (rt * 1000000000 + r2) / bt < 1000000000 := by omega
              have GU : Hid _ := GU'
              clear GU1 GU2 GC kr2 hlen YL GU' hs2 es2 q0
              go_upto_region 20 with fail
              clear kb4 k41 hI hJ hI' hJ' rt2 rt3 bt2 bt3 r20 r21
              go_wp2_with fail
              refine (zFQ _ _ (HB.out.1.l e5) HB.out.2.1 (by omega) G0 G1).mono ?_
              rintro e w6 ⟨v6, rfl, hC6, e6, o6⟩
              have X6 := xt e5 e6
              have O6 : Hid (Off (w2.heap.size + 1) v6) := o6.less (by have := e5.size; have := OWS.out; omega)
              have RP : Hid (∀ (w7 : World), Ext w4 w7 → Row w7 (.slice (some ⟨b4, o4, none⟩) ys4.length c4) ys4) := fun w7 x7 => HY.out.1.l x7
              have BP : Hid (∀ (w7 : World), Ext w4 w7 → Row w7 (.slice (some ⟨b2, o2, none⟩) bs.length c2) bs) := fun w7 x7 => HB.out.1.l x7
              clear o6
              go_wp2_with fail
              go_loopw [12, 13] (fun v p wq => ∃ g : Int, v = .int .u64 g ∧ 0 ≤ g ∧ g < 1000000000 ∧ Hid (∀ t, 0 ≤ t → t * lv bs ≤ rho → t ≤ g) ∧ zBZ wq p (lv bs * g) (bs.length + 1) ∧ Off (w2.heap.size + 1) p ∧ Ext w4 wq) (fun v _ _ => (intOf v).toNat)
              case atStart => exact ⟨_, rfl, G0, G1, GU, hC6, O6.out, X6⟩
              case round =>
                rename World => wq
                obtain ⟨g, rfl, g0, g1, gU, ⟨ps, P1, P2, P3, P4, P5⟩, oP, Xq⟩ := hrel
                clear hC6 e6 X6 O6 G0 G1 GU
                obtain ⟨_, Y2, Y3, Y4⟩ := HY.out
                obtain ⟨_, B2', B3'⟩ := HB.out
                by_cases hgt : rho < lv bs * g
                · have gp : 1 ≤ g := zG6 (B := lv bs) HRHO.out.2.2.1 g0 (by rw [Int.mul_comm]; exact hgt)
                  have hle : lv bs ≤ lv bs * g := by
                    have : lv bs * 1 ≤ lv bs * g := Int.mul_le_mul_of_nonneg_left gp (by omega)
                    omega
                  have pl : bs.length ≤ ps.length := zCR B2' P2 B3' (by rw [P4]; exact hle)
                  have NU : Hid (∀ t, 0 ≤ t → t * lv bs ≤ rho → t ≤ g - 1) := zF5 gU.out (by rw [Int.mul_comm]; exact hgt)
                  have VE : Hid (lv ps - lv bs = lv bs * (g - 1)) := by show _ = _; rw [P4, Int.mul_sub, Int.mul_one]
                  have PL : Hid _ := P5
                  have HPS : Hid (Lim ps ∧ Top ps ∧ lv ps = lv bs * g ∧ lv bs ≤ lv bs * g ∧ rho < lv bs * g ∧ bs.length ≤ ps.length ∧ Lim ys4 ∧ Top ys4 ∧ lv ys4 = rho ∧ Lim bs ∧ Row wq _ ps) := ⟨P2, P3, P4, hle, hgt, pl, Y2, Y3, Y4, B2', P1⟩
                  clear P1 P2 P3 P4 P5 hgt hle pl gU Y2 Y3 Y4 B2' B3' oP
                  go_wp2_with fail
                  refine (zLO 1 (zE2 (by rw [HPS.out.2.2.1, HPS.out.2.2.2.2.2.2.2.2.1]; exact HPS.out.2.2.2.2.1)) _ HPS.out.2.2.2.2.2.2.2.2.2.2 (RP.out _ Xq) HPS.out.1 HPS.out.2.2.2.2.2.2.1 HPS.out.2.1 HPS.out.2.2.2.2.2.2.2.1).mono ?_
                  rintro e w6 ⟨rfl, e6⟩
                  go_wp2_with fail
                  refine (zD3 _ (HPS.out.2.2.2.2.2.2.2.2.2.2.l e6) (BP.out _ (xt Xq e6)) HPS.out.1 HPS.out.2.2.2.2.2.2.2.2.2.1 (by have := PL.out; omega) HPS.out.2.2.2.2.2.1 (by rw [HPS.out.2.2.1]; exact HPS.out.2.2.2.1)).mono ?_
                  rintro e w7 ⟨v7, fs, rfl, F1, F2, F3, F4, e7, kq, cq, rfl⟩
                  have FF : Hid (lv fs = lv ps - lv bs ∧ fs.length = ps.length) := ⟨F3, F4⟩
                  clear F3 F4
                  go_wp2_with fail
                  refine (zEJ _ F1 F2).mono ?_
                  rintro e w8 ⟨v8, rfl, ⟨zs, Z1, Z2, Z3, Z4, Z5⟩, e8, o8⟩
                  have ZZ : Hid (zBZ w8 v8 (lv bs * (g - 1)) (bs.length + 1) ∧ Off (w2.heap.size + 1) v8) := ⟨⟨zs, Z1, Z2, Z3, by rw [Z4, FF.out.1, VE.out], by have := PL.out; have := FF.out.2; omega⟩, o8 _ (Off.at (by have := OWS.out; have := Xq.size; have := e6.size; omega))⟩
                  clear Z1 Z2 Z3 Z4 Z5 F1 F2 o8
                  go_wp2_with fail
                  go_roundw
                  case rel => exact ⟨g - 1, rfl, by omega, by omega, NU.out, ZZ.out.1, ZZ.out.2, xt Xq (xt (xt e6 e7) e8)⟩
                  case measure => simp [intOf]; omega
                · have hge' : lv bs * g ≤ rho := by omega
                  have hge2 : lv ps ≤ lv ys4 := by rw [P4, Y4]; exact hge'
                  have pl : ps.length ≤ ys4.length := zCR P2 Y2 P3 (by rw [P4, Y4]; exact hge')
                  have stp := zF4 g0 gU.out
                  rw [Int.mul_comm] at stp
                  have NX : Hid (zEM aa bs (qs.set j g) j (rho - lv bs * g)) := HD.out.1.step (g := g) (R' := rho - lv bs * g) hj HD.out.2.1 g0 g1 (by rw [HRHO.out.1, Int.mul_comm g]) (by omega) stp
                  have HPS : Hid (Lim ps ∧ Top ps ∧ lv ys4 - lv ps = rho - lv bs * g ∧ lv ps ≤ lv ys4 ∧ ps.length ≤ ys4.length ∧ Lim ys4 ∧ Top ys4 ∧ rho - lv bs * g < lv bs ∧ Lim bs ∧ Row wq _ ps ∧ Off _ _) := ⟨P2, P3, by rw [P4, Y4], hge2, pl, Y2, Y3, stp, B2', P1, oP⟩
                  have jq : j < qs.length := by have := QL.out; omega
                  have jq' : (j : Int) < (aa.length : Int) + 1 := by omega
                  clear P1 P2 P3 P4 P5 hgt hge' hge2 pl gU stp Y2 Y3 Y4 B2' B3' oP
                  go_wp2_with fail
                  refine (zE3 _ HPS.out.2.2.2.2.2.2.2.2.2.1 (RP.out _ Xq) HPS.out.1 HPS.out.2.2.2.2.2.1 HPS.out.2.1 HPS.out.2.2.2.2.2.2.1).mono ?_
                  rintro e w6 ⟨rfl, e6⟩
                  obtain ⟨c', hc', hcc⟩ : ∃ c, cmpI (lv ps) (lv ys4) = c ∧ c ≤ 0 := ⟨_, rfl, zKD HPS.out.2.2.2.1⟩
                  rw [hc']
                  have OW6 := (OW.out.l Xq).l e6
                  have kz := World.rowIs.frozen OW6 j
                  have kf := World.rowIs.cell OW6 (i := j) jq
                  have OW7 := OW6.set j jq g
                  have X46 := xt Xq e6
                  have RP7 := (RP.out _ X46).set (OFF.out) j (.int .u32 g)
                  have PP7 := (HPS.out.2.2.2.2.2.2.2.2.2.1.l e6).set (HPS.out.2.2.2.2.2.2.2.2.2.2) j (.int .u32 g)
                  have X7 := xset (xt X4 X46) (p := ⟨w2.heap.size, j, none⟩) (Nat.le_refl _) (.int .u32 g)
                  have HW7 : Hid (∀ u, w6.setCell ⟨w2.heap.size, j, none⟩ (.int .u32 g) = u → Row u _ ys4 ∧ Row u _ ps ∧ zAH u w2.heap.size (qs.set j g) ∧ Ext w2 u) := fun u h => by rw [← h]; exact ⟨RP7, PP7, OW7, X7⟩
                  clear RP7 PP7 OW7 X7 OW6 hc'
                  obtain ⟨u7, hu7⟩ : ∃ u, w6.setCell ⟨w2.heap.size, j, none⟩ (.int .u32 g) = u := ⟨_, rfl⟩
                  obtain ⟨V1, V2, V3, V4⟩ := HW7.out u7 hu7
                  have HV : Hid (Row u7 _ ys4 ∧ Row u7 _ ps ∧ zAH u7 w2.heap.size (qs.set j g) ∧ Ext w2 u7) := ⟨V1, V2, V3, V4⟩
                  clear V1 V2 V3 V4 HW7
                  go_wp2_with fail
                  refine (zD3 _ HV.out.1 HV.out.2.1 HPS.out.2.2.2.2.2.1 HPS.out.1 (by omega) HPS.out.2.2.2.2.1 HPS.out.2.2.2.1).mono ?_
                  rintro e w8 ⟨v8, fs, rfl, F1, F2, F3, F4, e8, kq, cq, rfl⟩
                  have FF : Hid _ := F3
                  clear F3 F4 hu7 kz kf
                  go_wp2_with fail
                  refine (zEJ _ F1 F2).mono ?_
                  rintro e w9 ⟨v9, rfl, ⟨zs, Z1, Z2, Z3, Z4, Z5⟩, e9, o9⟩
                  have ZZ : Hid (zBZ w9 v9 (rho - lv bs * g) bs.length ∧ Off (w2.heap.size + 1) v9) := ⟨⟨zs, Z1, Z2, Z3, by rw [Z4, FF.out, HPS.out.2.2.1], by
                    by_cases h : zs.length ≤ bs.length
                    · exact h
                    · have := zHR HPS.out.2.2.2.2.2.2.2.2.1 Z2 (Z3.resolve_left (by omega)) (by omega)
                      rw [Z4, FF.out, HPS.out.2.2.1] at this
                      have := HPS.out.2.2.2.2.2.2.2.1
                      omega⟩, o9 _ (Off.at (by have := OWS.out; have := HV.out.2.2.2.size; have := World.rowIs.lt HV.out.2.2.1; omega))⟩
                  clear Z1 Z2 Z3 Z4 Z5 F1 F2 o9
                  go_wp2_with fail
                  go_roundw
                  case rel => exact ⟨j, qs.set j g, rho - lv bs * g, by omega, by go_num, (HV.out.2.2.1.l e8).l e9, NX.out, ZZ.out.1, ZZ.out.2, xt (xt HV.out.2.2.2 e8) e9⟩
                  case measure => simp [intOf]
end Go.Proofs.YtjlojlgdkfpcdaaGreatDoor

