/-
  Chapter 15: the history of steps, by the program.
-/
import Derived.Test.YtmpemgpfjopkgaaHs7
namespace Go.Proofs.Ytmpemgpfjopkgaa
open Go.RowKit

/-- What historyOf answers. -/
def HistR (w' : World) (l : List STP) (z : Ending) : Prop :=
  (goodH l = false ∧ z = .returned (.tuple #[.pointer none, .bool false])) ∨ (goodH l = true ∧ ∃ bs, z = .returned (.tuple #[.pointer (ptrD bs l.length), .bool true]) ∧ bs.length = l.length ∧ HistAt w' l bs)
set_option maxRecDepth 8000 in
set_option maxHeartbeats 4000000 in
theorem historyI (v : Value) (l : List STP) (w : World) (h : StpsIn w v l) (hl : l.length ≤ 1048576) (hc : ∀ e ∈ l, e.ch.length ≤ 1048576) :
    Calls Try.prog 23 #[v] w fun z w' => HistR w' l z ∧ Ext w w' := by
  obtain ⟨p, cap, rfl, hcap, hrow⟩ := h
  obtain ⟨n, hn⟩ : ∃ n, l.length = n := ⟨_, rfl⟩
  have HN : Hid (l.length = n) := hn
  have HGd : Hid (goodH l = (okL l n && decide (n ≤ 60))) := by show _ = _; unfold goodH; rw [hn]
  rw [hn] at hl hcap hrow ⊢
  have HRow : Hid (0 < n → ∃ b o, p = some ⟨b, o, none⟩ ∧ RowSt w b o l) := hrow
  have HC : Hid (∀ e ∈ l, e.ch.length ≤ 1048576) := hc
  clear hrow hc hn
  by_cases h6 : 60 < n
  · have HF : Hid (goodH l = false) := by show _ = _; rw [HGd.out, decide_eq_false (by omega : ¬ n ≤ 60), Bool.and_false]
    go_enter Try.func23, Try.ntmps23
    go_wp2_with fail
    exact bodyPost_ret (v := .tuple #[.pointer none, .bool false]) (by simp [results, Try.results23, go_sem]) rfl ⟨.inl ⟨HF.out, rfl⟩, xr _⟩
  · go_enter Try.func23, Try.ntmps23
    go_wp2_with fail
    go_loopw [4, 12] (fun s j wr => ∃ (k : Nat) (bs : List Nat), k ≤ n ∧ j = .int .i64 k ∧ s = .pointer (ptrD bs k) ∧ Hid (bs.length = k) ∧ Hid (okL l k = true) ∧ Hid (HistAt wr l bs) ∧ Ext w wr) (fun _ j _ => n - (intOf j).toNat)
    case atStart => exact ⟨0, [], by omega, rfl, rfl, rfl, rfl, fun i b hb => by simp at hb, xr _⟩
    case round =>
      obtain ⟨k, bs, hk, rfl, rfl, HB, HA, HH, X⟩ := hrel
      by_cases hlt : k < n
      · obtain ⟨e, he⟩ : ∃ e, l[k]? = some e := ⟨_, List.getElem?_eq_getElem (by rw [HN.out]; exact hlt)⟩
        obtain ⟨b, o, rfl, hR⟩ := HRow.out (by omega)
        obtain ⟨cv, hd, a0, a1⟩ := (hR.later X) k e he
        have HE : Hid (l[k]? = some e) := he
        have HT : Hid (okL l (k + 1) = e.ok k) := by show _ = _; rw [okL_at he, HA.out]; rfl
        have HBd : Hid (e.ok k = false → goodH l = false) := fun hf => by
          rw [HGd.out, okL_bad (k + 1) hlt (by rw [HT.out]; exact hf)]
          rfl
        have CG : Hid (∀ W, Ext wr W → Calls Try.prog 30 #[.agg #[.int .i64 e.u, cv], .int .i64 k] W fun z w' => z = .returned (.bool (e.ok k)) ∧ Ext W w') := fun W x => isGoodI e cv k W (hd.later x) (HC.out e (List.mem_of_getElem? he))
        have HU : Hid (e.ok k = true → 0 ≤ e.u ∧ e.u ≤ k) := fun ht => STP.ok_u ht
        obtain ⟨q, hq⟩ : ∃ q, e.ok k = q := ⟨_, rfl⟩
        rw [hq] at HT HBd CG HU
        have HCi : Hid (ChangesIn wr cv e.ch) := hd
        obtain ⟨u, ech⟩ := e
        dsimp only at a0 a1 CG HU
        have i2 : (k : Int) < (n : Int) := by omega
        have X1 := x1 wr (.cells #[.int .i64 u, cv] 41)
        have B1 := vec_made wr [.int .i64 u, cv] 41
        change Vec (wr.alloc (.cells #[.int .i64 u, cv] 41)) _ _ at B1
        obtain ⟨wb, hb⟩ : ∃ wb, wr.alloc (.cells #[.int .i64 u, cv] 41) = wb := ⟨_, rfl⟩
        rw [hb] at X1 B1
        have d0 := (B1 0 _ rfl).1
        have d1 := (B1 1 _ rfl).1
        have hcv : cv.oneCell' = true := by
          obtain ⟨p3, c3, rfl, _⟩ := hd
          rfl
        obtain ⟨p3, c3, rfl, _⟩ := hd
        obtain ⟨N3, hN3⟩ : ∃ N3, ech.length = N3 := ⟨_, rfl⟩
        dsimp only at d1 a1 B1 hb CG
        rw [hN3] at d1 a1 B1 hb CG HCi
        clear hR he hq hN3 hcv
        cases q
        · have HF : Hid (goodH l = false) := HBd.out rfl
          clear HBd HU
          go_wp2_with fail
          clear a0 a1 hb d0 d1
          refine (CG.out wb X1).mono ?_
          rintro z w1 ⟨rfl, e1⟩
          go_wp2_with fail
          exact bodyPost_ret (v := .tuple #[.pointer none, .bool false]) (by simp [results, Try.results23, go_sem]) rfl ⟨.inl ⟨HF.out, rfl⟩, xt X (xt X1 e1)⟩
        · have hu := HU.out rfl
          clear HBd HU
          obtain ⟨m, rfl⟩ : ∃ m : Nat, u = (m : Int) := ⟨u.toNat, by omega⟩
          have hmk : m ≤ k := by omega
          go_wp2_with fail
          clear a0 a1 hb d0 d1
          refine (CG.out wb X1).mono ?_
          rintro z w1 ⟨rfl, e1⟩
          have B2 := B1.later e1
          have H2 : Hid (HistAt w1 l bs) := HH.out.later (xt X1 e1)
          have X2 := xt X (xt X1 e1)
          have d0 := (B2 0 _ rfl).1
          have d1 := (B2 1 _ rfl).1
          obtain ⟨F, hF⟩ : ∃ F, wr.heap.size = F := ⟨_, rfl⟩
          rw [hF] at d0 d1 B2 ⊢
          have CF : Hid (∀ W, Ext w1 W → Calls Try.prog 31 #[.pointer (ptrD bs k), .int .i64 (m : Int)] W fun z w' => z = .returned (.pointer (ptrD bs m)) ∧ Ext W w') := fun W x => by
            have := findI l bs m W (H2.out.later x) (by rw [HB.out]; exact hmk)
            rw [HB.out] at this
            exact this
          obtain ⟨pk, hpk⟩ : ∃ pk, ptrD bs k = pk := ⟨_, rfl⟩
          obtain ⟨pm, hpm⟩ : ∃ pm, ptrD bs m = pm := ⟨_, rfl⟩
          have HPk : Hid (ptrD bs k = pk ∧ ptrD bs m = pm) := ⟨hpk, hpm⟩
          rw [hpk, hpm] at CF
          simp only [hpk]
          clear hF hpk hpm CG HCi HH X X1 e1 B1
          go_wp2_with fail
          go_region_held3 (fun w' => w'.cell? ⟨F, 0, none⟩ = some (.int .i64 (m : Int)) ∧ w'.cell? ⟨F, 1, none⟩ = some (.slice p3 N3 c3)) (go_keep)
            (first
              | (go_at_call 31; refine (CF.out _ (by first | exact xd (xr _) | exact xr _)).mono ?_; rintro e w' ⟨rfl, E⟩; have Y := xt (xd (xr _)) E; have r0 := cell_later Y d0; have r1 := cell_later Y d1))
          all_goals go_wp2_with fail
          all_goals go_roundw
          case rel =>
            have hv : Vec (w'.alloc (.cells #[.int .i64 (m : Int), .slice p3 N3 c3, .int .i64 ((k : Int) + 1), .pointer pk, .pointer pm] 48)) w'.heap.size (deedL bs bs.length ⟨(m : Int), ech⟩ (.slice p3 N3 c3)) := by
              have h0 := vec_made w' [.int .i64 (m : Int), .slice p3 N3 c3, .int .i64 ((k : Int) + 1), .pointer pk, .pointer pm] 48
              have e3 : ((k + 1 : Nat) : Int) = (k : Int) + 1 := by omega
              show Vec _ _ [_, _, .int .i64 ((bs.length + 1 : Nat) : Int), .pointer (ptrD bs bs.length), .pointer (ptrD bs ((m : Int).toNat))]
              rw [HB.out, e3, HPk.out.1, Int.toNat_natCast, HPk.out.2]
              exact h0
            have XE := xt Y (x1 w' (.cells #[.int .i64 (m : Int), .slice p3 N3 c3, .int .i64 ((k : Int) + 1), .pointer pk, .pointer pm] 48))
            refine ⟨k + 1, bs ++ [w'.heap.size], by omega, by go_num, ?_, ?_, HT.out, ?_, xt X2 XE⟩
            · refine congrArg Value.pointer (ptrD_succ ?_).symm
              rw [List.getElem?_append_right (by rw [HB.out]; exact Nat.le_refl _), HB.out, Nat.sub_self]
              rfl
            · show _ = _
              rw [List.length_append, HB.out]
              rfl
            · exact (H2.out.later XE).snoc (by rw [HB.out]; exact HE.out) (by show (0 : Int) ≤ (m : Int); omega) (by show (m : Int) ≤ ((bs.length : Nat) : Int); rw [HB.out]; omega) hv
          case measure => simp [intOf]; omega
      · obtain rfl : k = n := by omega
        have HF : Hid (goodH l = true ∧ bs.length = l.length ∧ HistAt wr l bs) := ⟨by rw [HGd.out, HA.out, Bool.true_and]; exact decide_eq_true (by omega), by rw [HB.out, HN.out], HH.out⟩
        have HP : Hid (ptrD bs l.length = ptrD bs k) := by show _ = _; rw [HN.out]
        obtain ⟨pk, hpk⟩ : ∃ pk, ptrD bs k = pk := ⟨_, rfl⟩
        rw [hpk] at HP ⊢
        clear HA HB HH hpk
        go_wp2_with fail
        exact bodyPost_ret (v := .tuple #[.pointer pk, .bool true]) (by simp [results, Try.results23, go_sem]) rfl ⟨.inr ⟨HF.out.1, bs, by rw [HP.out], HF.out.2⟩, X⟩

end Go.Proofs.Ytmpemgpfjopkgaa
