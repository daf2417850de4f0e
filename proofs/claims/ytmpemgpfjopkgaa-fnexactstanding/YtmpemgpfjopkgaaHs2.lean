/-
  Chapter 15: steps handed over and compared.
-/
import Derived.Test.YtmpemgpfjopkgaaHs1
import Derived.Deep.RegionHeld3
namespace Go.Proofs.Ytmpemgpfjopkgaa
open Go.RowKit

abbrev ownV (b n : Nat) : Value := .slice (some ⟨b, 0, none⟩) n n
set_option maxRecDepth 8000 in
set_option maxHeartbeats 4000000 in
theorem toStep (u : Int) (cv : Value) (l : List CH) (w : World) (h : ChangesIn w cv l) (hl : l.length ≤ 1048576) :
    Calls Try.prog 22 #[stepV u cv] w fun z w' => ∃ b, z = .returned (stepV u (ownV b l.length)) ∧ w.heap.size ≤ b ∧ OwnCh w' b l ∧ Ext w w' := by
  obtain ⟨u0, u1, u2, h0, h1, h2, s0, s1, s2, B0, B1, B2, X⟩ := mkB3 w [.int .i64 u, cv] [.int .i64 0, .slice none 0 0] [.int .i64 0, .slice none 0 0] 37 41 41
  have X3 := xset X (p := ⟨w.heap.size + 1 + 1, 0, none⟩) (by show _ ≤ w.heap.size + 1 + 1; omega) (.int .i64 u)
  have V0 := B0.far (p := ⟨w.heap.size + 1 + 1, 0, none⟩) (by show w.heap.size + 1 + 1 ≠ _; omega) (.int .i64 u)
  have V1 := B1.far (p := ⟨w.heap.size + 1 + 1, 0, none⟩) (by show w.heap.size + 1 + 1 ≠ _; omega) (.int .i64 u)
  have V2 : Vec (u2.setCell ⟨w.heap.size + 1 + 1, 0, none⟩ (.int .i64 u)) (w.heap.size + 1 + 1) [.int .i64 u, .slice none 0 0] := B2.put 0 (by simp) _
  have s3 : (u2.setCell ⟨w.heap.size + 1 + 1, 0, none⟩ (.int .i64 u)).heap.size = w.heap.size + 1 + 1 + 1 := by simpa using s2
  obtain ⟨u3, h3⟩ : ∃ u3, u2.setCell ⟨w.heap.size + 1 + 1, 0, none⟩ (.int .i64 u) = u3 := ⟨_, rfl⟩
  rw [h3] at X3 V0 V1 V2 s3
  have a0 := (B0 0 _ rfl).1
  have k0 := (B2 0 _ rfl).1
  have f0 := (B2 0 _ rfl).2
  have a1 := (V0 1 _ rfl).1
  have CD := toChanges cv l u3 (h.later X3) (by omega)
  rw [s3] at CD
  obtain ⟨N, hN⟩ : ∃ N, l.length = N := ⟨_, rfl⟩
  simp only [hN] at CD ⊢
  clear h hl hN
  go_enter Try.func22, Try.ntmps22
  go_wp2_with fail
  clear a0 a1 k0 f0 h0 h1 h2 h3 s0 s1 s2 s3 B0 B1 B2 X V0
  refine CD.mono ?_
  rintro z w1 ⟨⟨g, rfl, hg, OW⟩, e1⟩
  have W1 := (V1.later e1).far (p := ⟨w.heap.size + 1 + 1, 1, none⟩) (by show w.heap.size + 1 + 1 ≠ _; omega) (ownV g N)
  have W2 : Vec (w1.setCell ⟨w.heap.size + 1 + 1, 1, none⟩ (ownV g N)) (w.heap.size + 1 + 1) [.int .i64 u, ownV g N] := (V2.later e1).put 1 (by simp) _
  have XA := xset (xt X3 e1) (p := ⟨w.heap.size + 1 + 1, 1, none⟩) (by show _ ≤ w.heap.size + 1 + 1; omega) (ownV g N)
  have OA := OW.far (p := ⟨w.heap.size + 1 + 1, 1, none⟩) (by show w.heap.size + 1 + 1 ≠ _; omega) (ownV g N)
  have k1 := ((V2.later e1) 1 _ rfl).1
  have f1 := ((V2.later e1) 1 _ rfl).2
  obtain ⟨wa, ha⟩ : ∃ wa, w1.setCell ⟨w.heap.size + 1 + 1, 1, none⟩ (ownV g N) = wa := ⟨_, rfl⟩
  rw [ha] at W1 W2 XA OA
  have q0 := (W2 0 _ rfl).1
  have q1 := (W2 1 _ rfl).1
  have r0 := (W1 0 _ rfl).1
  have r1 := (W1 1 _ rfl).1
  have t0 := (W1 0 _ rfl).2
  have t1 := (W1 1 _ rfl).2
  have G1 : Vec ((wa.setCell ⟨w.heap.size + 1, 0, none⟩ (.int .i64 u)).setCell ⟨w.heap.size + 1, 1, none⟩ (ownV g N)) (w.heap.size + 1) [.int .i64 u, ownV g N] := (W1.put 0 (by simp) _).put 1 (by simp) _
  have XD := xset (xset XA (p := ⟨w.heap.size + 1, 0, none⟩) (by show _ ≤ w.heap.size + 1; omega) (.int .i64 u)) (p := ⟨w.heap.size + 1, 1, none⟩) (by show _ ≤ w.heap.size + 1; omega) (ownV g N)
  have OD := (OA.far (p := ⟨w.heap.size + 1, 0, none⟩) (by show w.heap.size + 1 ≠ _; omega) (.int .i64 u)).far (p := ⟨w.heap.size + 1, 1, none⟩) (by show w.heap.size + 1 ≠ _; omega) (ownV g N)
  obtain ⟨wd, hd⟩ : ∃ wd, (wa.setCell ⟨w.heap.size + 1, 0, none⟩ (.int .i64 u)).setCell ⟨w.heap.size + 1, 1, none⟩ (ownV g N) = wd := ⟨_, rfl⟩
  rw [hd] at G1 XD OD
  have p0 := (G1 0 _ rfl).1
  have p1 := (G1 1 _ rfl).1
  have HO : Hid (OwnCh wd g l) := OD
  have hg2 : w.heap.size ≤ g := by omega
  clear W1 W2 OA OD XA G1 V1 V2 OW CD
  go_wp2_with fail
  exact bodyPost_ret (v := stepV u (ownV g N)) (by simp [results, Try.results22, go_sem, p0, p1]) rfl ⟨g, rfl, hg2, HO.out, XD⟩
/-- What is handed over, by an index: the changes of each in a block of its own. -/
def ZipS (w : World) (g : Nat) (l : List STP) (M : List SC) (bs : List Nat) (k : Nat) : Prop :=
  M.length = k ∧ bs.length = k ∧ (∀ (i : Nat) (e : STP), i < k → l[i]? = some e → ∃ b, g < b ∧ bs[i]? = some b ∧ M[i]? = some ⟨e.u, ownV b e.ch.length⟩ ∧ OwnCh w b e.ch) ∧
    ∀ (i j b c : Nat) (e : STP), i < j → bs[i]? = some b → bs[j]? = some c → l[i]? = some e → 0 < e.ch.length → b < c
theorem ZipS.later {w w' : World} {g : Nat} {l : List STP} {M : List SC} {bs : List Nat} {k : Nat} (h : ZipS w g l M bs k) (x : Ext w w') : ZipS w' g l M bs k := ⟨h.1, h.2.1, fun i e hi he => by
  obtain ⟨b, h0, h1, h2, h3⟩ := h.2.2.1 i e hi he
  exact ⟨b, h0, h1, h2, h3.later x⟩, h.2.2.2⟩
theorem ZipS.far {w : World} {g : Nat} {l : List STP} {M : List SC} {bs : List Nat} {k : Nat} (h : ZipS w g l M bs k) (o : Nat) (u : Value) : ZipS (w.setCell ⟨g, o, none⟩ u) g l M bs k := ⟨h.1, h.2.1, fun i e hi he => by
  obtain ⟨b, h0, h1, h2, h3⟩ := h.2.2.1 i e hi he
  exact ⟨b, h0, h1, h2, h3.far (p := ⟨g, o, none⟩) (by show g ≠ _; omega) u⟩, h.2.2.2⟩
/-- The blocks that hold changes are among those there are. -/
theorem ZipS.lt {w : World} {g : Nat} {l : List STP} {M : List SC} {bs : List Nat} {k : Nat} (h : ZipS w g l M bs k) {i b : Nat} {e : STP} (hb : bs[i]? = some b) (he : l[i]? = some e) (h0 : 0 < e.ch.length) : b < w.heap.size := by
  have hi : i < k := by rw [← h.2.1]; exact (List.getElem?_eq_some_iff.1 hb).1
  obtain ⟨b', _, h1, _, h3⟩ := h.2.2.1 i e hi he
  rw [hb] at h1
  cases h1
  exact World.block_lt_of_cell? _ _ (h3 0 _ (List.getElem?_eq_getElem h0) 0 _ rfl).1
theorem ZipS.snoc {w : World} {g : Nat} {l : List STP} {M : List SC} {bs : List Nat} {k : Nat} {e : STP} {b : Nat} (h : ZipS w g l M bs k) (he : l[k]? = some e) (hb : g < b) (ha : ∀ (i c : Nat) (q : STP), bs[i]? = some c → l[i]? = some q → 0 < q.ch.length → c < b) (hd : OwnCh w b e.ch) :
    ZipS w g l (M ++ [⟨e.u, ownV b e.ch.length⟩]) (bs ++ [b]) (k + 1) :=
  ⟨by simp [h.1], by simp [h.2.1], fun i q hi hq => by
    by_cases hik : i = k
    · subst hik
      rw [he] at hq
      cases hq
      refine ⟨b, hb, ?_, ?_, hd⟩
      · rw [List.getElem?_append_right (by rw [h.2.1]; omega), h.2.1]; simp
      · rw [List.getElem?_append_right (by rw [h.1]; omega), h.1]; simp
    · obtain ⟨c, h0, h1, h2, h3⟩ := h.2.2.1 i q (by omega) hq
      refine ⟨c, h0, ?_, ?_, h3⟩
      · rw [List.getElem?_append_left (by rw [h.2.1]; omega)]; exact h1
      · rw [List.getElem?_append_left (by rw [h.1]; omega)]; exact h2, fun i j x y q hij hx hy hq h0 => by
    have hj : j < k + 1 := by have := (List.getElem?_eq_some_iff.1 hy).1; simp [h.2.1] at this; omega
    have hxi : bs[i]? = some x := by rw [List.getElem?_append_left (by rw [h.2.1]; omega)] at hx; exact hx
    by_cases hjk : j = k
    · rw [List.getElem?_append_right (by rw [h.2.1]; omega), hjk, h.2.1] at hy
      simp at hy
      rw [← hy]
      exact ha i x q hxi hq h0
    · rw [List.getElem?_append_left (by rw [h.2.1]; omega)] at hy
      exact h.2.2.2 i j x y q hij hxi hy hq h0⟩
theorem RowSc.steps {w : World} {g b o : Nat} {l : List STP} {M : List SC} {bs : List Nat} (h : RowSc w b o M) (z : ZipS w g l M bs l.length) : RowSt w b o l := fun i e hi => by
  obtain ⟨c, h0, h1, h2, h3⟩ := z.2.2.1 i e (List.getElem?_eq_some_iff.1 hi).1 hi
  obtain ⟨a0, a1⟩ := h.all h2
  exact ⟨_, h3.slice, a0, a1⟩
theorem zsc_at {M : List SC} {k n : Nat} (hM : M.length = k) (h : k < n) : (M ++ List.replicate (n - k) zeroSC)[k]? = some zeroSC := by
  rw [List.getElem?_append_right (by omega), List.getElem?_replicate, if_pos (by omega)]
theorem zsc_set {M : List SC} {k n : Nat} (hM : M.length = k) (h : k < n) (e : SC) : (M ++ List.replicate (n - k) zeroSC).set k e = (M ++ [e]) ++ List.replicate (n - (k + 1)) zeroSC := by
  obtain ⟨j, hj⟩ : ∃ j, n - k = j + 1 := ⟨n - k - 1, by omega⟩
  rw [hj, show n - (k + 1) = j by omega, List.set_append_right _ _ (by omega), hM, Nat.sub_self, List.replicate_succ, List.set_cons_zero, List.append_assoc]
  rfl
theorem infoSc : (Try.prog.info? 41).map (fun i => (i.zero, i.size, i.bytes)) = some (some (.agg #[.int .i64 0, .slice none 0 0]), 2, 32) := by kernel_rfl
theorem makeRowSc (n : Nat) (hn : n ≤ 2000000) (w : World) :
    (Instr.makeSlice 26 (.int .i64 (n : Int)) (.int .i64 (n : Int))).run Try.prog w = .ok (.slice (some ⟨w.heap.size, 0, none⟩) n n) (w.alloc (.cells (madeCells #[.int .i64 0, .slice none 0 0] (n * 2)) 41)) := by
  obtain ⟨i, hi, hzz⟩ := Option.map_eq_some_iff.1 infoSc
  simp only [Prod.mk.injEq] at hzz
  obtain ⟨hz, hs, hb⟩ := hzz
  have hr := run_make (P := Try.prog) w 26 41 i _ Try.underlying26 hi hz .i64 .i64 n n (by omega) (Int.le_refl _) (by rw [hb]; omega) (by omega)
  simp only [Int.toNat_natCast, hs] at hr
  exact hr
/-- Steps of one's own: what toStepS gives. -/
def OwnSt (w : World) (g : Nat) (l : List STP) : Prop := ∃ M bs, OwnSc w g M ∧ ZipS w g l M bs l.length
theorem OwnSt.later {w w' : World} {g : Nat} {l : List STP} (h : OwnSt w g l) (x : Ext w w') : OwnSt w' g l := by
  obtain ⟨M, bs, h1, h2⟩ := h
  exact ⟨M, bs, h1.later x, h2.later x⟩
theorem OwnSt.steps {w : World} {g n : Nat} {l : List STP} (h : OwnSt w g l) (hn : l.length = n) : StpsIn w (ownV g n) l := by
  subst hn
  obtain ⟨M, bs, h1, h2⟩ := h
  exact ⟨_, _, rfl, Nat.le_refl _, fun _ => ⟨g, 0, rfl, h1.row.steps h2⟩⟩
set_option maxRecDepth 8000 in
set_option maxHeartbeats 2000000 in
theorem toSteps (v : Value) (l : List STP) (w : World) (h : StpsIn w v l) (hl : l.length ≤ 1048576) (hc : ∀ e ∈ l, e.ch.length ≤ 1048576) :
    Calls Try.prog 8 #[v] w fun e w' => (∃ g, e = .returned (ownV g l.length) ∧ w.heap.size ≤ g ∧ g < w'.heap.size ∧ OwnSt w' g l) ∧ Ext w w' := by
  obtain ⟨p, cap, rfl, hcap, hrow⟩ := h
  obtain ⟨n, hn⟩ : ∃ n, l.length = n := ⟨_, rfl⟩
  have HN : Hid (l.length = n) := hn
  have hmk := makeRowSc n (by omega)
  have O0 := OwnSc.made w n 41
  have X0 := x1 w (.cells (madeCells #[.int .i64 0, .slice none 0 0] (n * 2)) 41)
  rw [hn] at hcap hl hrow ⊢
  have HRow : Hid (0 < n → ∃ b o, p = some ⟨b, o, none⟩ ∧ RowSt w b o l) := hrow
  have HC : Hid (∀ e ∈ l, e.ch.length ≤ 1048576) := hc
  obtain ⟨wa, ha⟩ : ∃ wa, w.alloc (.cells (madeCells #[.int .i64 0, .slice none 0 0] (n * 2)) 41) = wa := ⟨_, rfl⟩
  have sa : w.heap.size < wa.heap.size := by rw [← ha, World.size_alloc]; omega
  rw [ha] at O0 X0
  obtain ⟨g, hg⟩ : ∃ g, w.heap.size = g := ⟨_, rfl⟩
  have HG : Hid (w.heap.size ≤ g) := by show _ ≤ _; omega
  have HS : Hid (g < wa.heap.size) := by show _ < _; omega
  rw [hg] at O0
  have HO : Hid (OwnSc wa g ([] ++ List.replicate (n - 0) zeroSC) ∧ ZipS wa g l [] [] 0) := ⟨O0, rfl, rfl, fun i e hi => absurd hi (by omega), fun i j b c e _ h => by simp at h⟩
  clear hn hrow O0 hc sa
  go_enter Try.func8, Try.ntmps8
  go_wp2_with fail
  clear hmk ha
  go_loopw [4] (fun i wr => ∃ k : Nat, k ≤ n ∧ i = .int .i64 k ∧ Hid (∃ M bs, OwnSc wr g (M ++ List.replicate (n - k) zeroSC) ∧ ZipS wr g l M bs k) ∧ Hid (g < wr.heap.size) ∧ Ext w wr) (fun i _ => n - (intOf i).toNat)
  case atStart => exact ⟨0, by omega, rfl, ⟨[], [], HO.out⟩, HS, X0⟩
  case round =>
    obtain ⟨k, hk, rfl, HK, HSz, X⟩ := hrel
    by_cases hlt : k < n
    · obtain ⟨e, he⟩ : ∃ e, l[k]? = some e := ⟨_, List.getElem?_eq_getElem (by rw [HN.out]; exact hlt)⟩
      obtain ⟨b, o, rfl, hR⟩ := HRow.out (by omega)
      obtain ⟨cv, hdc, a0, a1⟩ := (hR.later X) k e he
      have HE : Hid (l[k]? = some e) := he
      have HCT : Hid (Calls Try.prog 22 #[.agg #[.int .i64 e.u, cv]] wr fun z w' => ∃ b, z = .returned (.agg #[.int .i64 e.u, ownV b e.ch.length]) ∧ wr.heap.size ≤ b ∧ OwnCh w' b e.ch ∧ Ext wr w') := toStep e.u cv e.ch wr hdc (HC.out e (List.mem_of_getElem? he))
      obtain ⟨N, hN⟩ : ∃ N, e.ch.length = N := ⟨_, rfl⟩
      have HNc : Hid (e.ch.length = N) := hN
      rw [hN] at HCT
      clear hdc hN
      obtain ⟨eu, ech⟩ := e
      have i2 : (k : Int) < (n : Int) := by omega
      clear hR he
      dsimp only at a0 a1 HCT HNc
      go_wp2_with fail
      clear a0 a1
      refine HCT.out.mono ?_
      rintro r w' ⟨b2, rfl, hb2, OD, E⟩
      obtain ⟨M, bs, OM, ZM⟩ := HK.out
      have OM' := OM.later E
      have ZM' := ZM.later E
      have hM := ZM.1
      have hbs : ∀ (i c : Nat) (q : STP), bs[i]? = some c → l[i]? = some q → 0 < q.ch.length → c < b2 := fun i c q h1 h2 h3 => Nat.lt_of_lt_of_le (ZM.lt h1 h2 h3) hb2
      obtain ⟨⟨b0, b1⟩, f0, f1⟩ := OM'.all (zsc_at hM hlt)
      have X' := xt X E
      have hgb : g < b2 := by have := HSz.out; omega
      have hsz : g < w'.heap.size := by have := HSz.out; have := E.size; omega
      have P1 := OM'.put (k := k) (by simp [hM]; omega) ⟨eu, ownV b2 N⟩
      rw [zsc_set hM hlt] at P1
      have Z1 := (ZM'.far (k * 2) (.int .i64 eu)).far (k * 2 + 1) (ownV b2 N)
      have D1 := (OD.far (p := ⟨g, k * 2, none⟩) (by show g ≠ _; omega) (.int .i64 eu)).far (p := ⟨g, k * 2 + 1, none⟩) (by show g ≠ _; omega) (ownV b2 N)
      have XY := xset (xset X' (p := ⟨g, k * 2, none⟩) HG.out (.int .i64 eu)) (p := ⟨g, k * 2 + 1, none⟩) HG.out (ownV b2 N)
      obtain ⟨wy, hy⟩ : ∃ wy, (w'.setCell ⟨g, k * 2, none⟩ (.int .i64 eu)).setCell ⟨g, k * 2 + 1, none⟩ (ownV b2 N) = wy := ⟨_, rfl⟩
      have hsy : g < wy.heap.size := by rw [← hy]; simpa using hsz
      change OwnSc ((w'.setCell ⟨g, k * 2, none⟩ (.int .i64 eu)).setCell ⟨g, k * 2 + 1, none⟩ (ownV b2 N)) _ _ at P1
      rw [hy] at P1 Z1 D1 XY
      have HQ : Hid (∃ M bs, OwnSc wy g (M ++ List.replicate (n - (k + 1)) zeroSC) ∧ ZipS wy g l M bs (k + 1)) := ⟨_, _, P1, by have := Z1.snoc HE.out hgb hbs D1; rw [show (STP.mk eu ech).ch.length = N from HNc.out] at this; exact this⟩
      have HX : Hid (Ext w wy) := XY
      have HSy : Hid (g < wy.heap.size) := hsy
      have bb0 : w'.cell? ⟨g, k * 2, none⟩ = some (.int .i64 0) := b0
      have bb1 : w'.cell? ⟨g, k * 2 + 1, none⟩ = some (.slice none 0 0) := b1
      clear HK OM ZM OM' ZM' P1 Z1 D1 XY X X' E HCT OD hsy hsz b0 b1 hM hbs
      go_wp2_with fail
      go_roundw
      case rel => exact ⟨k + 1, by omega, by go_num, HQ, HSy, HX.out⟩
      case measure => simp [intOf]; omega
    · obtain rfl : k = n := by omega
      have HF : Hid (OwnSt wr g l) := by
        obtain ⟨M, bs, h1, h2⟩ := HK.out
        refine ⟨M, bs, ?_, by rw [HN.out]; exact h2⟩
        rw [Nat.sub_self, List.replicate_zero, List.append_nil] at h1
        exact h1
      clear HK
      go_wp2_with fail
      go_ret
      exact ⟨⟨g, rfl, HG.out, HSz.out, HF.out⟩, X⟩
set_option maxRecDepth 8000 in
set_option maxHeartbeats 2000000 in
theorem eqStep_same (u : Int) (cv cv' : Value) (l : List CH) (w : World) (h : ChangesIn w cv l) (h' : ChangesIn w cv' l) (hl : l.length ≤ 1048576) :
    Calls Try.prog 25 #[stepV u cv, stepV u cv'] w fun z w' => z = .returned (.bool true) ∧ Ext w w' := by
  obtain ⟨u0, u1, h0, h1, s0, s1, B0, B1, X⟩ := mkB2 w [.int .i64 u, cv] [.int .i64 u, cv'] 41 41
  have a0 := (B0 0 _ rfl).1
  have a1 := (B0 1 _ rfl).1
  have b0 := (B1 0 _ rfl).1
  have b1 := (B1 1 _ rfl).1
  go_enter Try.func25, Try.ntmps25
  go_wp2_with fail
  clear a0 a1 b0 b1 h0 h1 s0 s1
  refine (eqChanges cv cv' l u1 (h.later X) (h'.later X) (by omega)).mono ?_
  rintro z w1 ⟨rfl, e1⟩
  go_wp2_with fail
  go_ret
  exact ⟨rfl, xt X e1⟩
set_option maxRecDepth 8000 in
set_option maxHeartbeats 4000000 in
theorem eqSteps (v v' : Value) (l : List STP) (w : World) (h : StpsIn w v l) (h' : StpsIn w v' l) (hl : l.length ≤ 1048576) (hc : ∀ e ∈ l, e.ch.length ≤ 1048576) :
    Calls Try.prog 11 #[v, v'] w fun e w' => e = .returned (.bool true) ∧ Ext w w' := by
  obtain ⟨p, cap, rfl, hcap, hrow⟩ := h
  obtain ⟨p', cap', rfl, hcap', hrow'⟩ := h'
  obtain ⟨n, hn⟩ : ∃ n, l.length = n := ⟨_, rfl⟩
  have HN : Hid (l.length = n) := hn
  rw [hn] at hcap hcap' hl hrow hrow' ⊢
  have HRow : Hid (0 < n → ∃ b o, p = some ⟨b, o, none⟩ ∧ RowSt w b o l) := hrow
  have HRow' : Hid (0 < n → ∃ b o, p' = some ⟨b, o, none⟩ ∧ RowSt w b o l) := hrow'
  have HC : Hid (∀ e ∈ l, e.ch.length ≤ 1048576) := hc
  clear hn hrow hrow' hc
  go_enter Try.func11, Try.ntmps11
  go_wp2_with fail
  go_loopw [5] (fun i wr => ∃ k : Nat, k ≤ n ∧ i = .int .i64 k ∧ Ext w wr) (fun i _ => n - (intOf i).toNat)
  case atStart => exact ⟨0, by omega, rfl, xr _⟩
  case round =>
    obtain ⟨k, hk, rfl, X⟩ := hrel
    by_cases hlt : k < n
    · obtain ⟨e, he⟩ : ∃ e, l[k]? = some e := ⟨_, List.getElem?_eq_getElem (by rw [HN.out]; exact hlt)⟩
      obtain ⟨b, o, rfl, hR⟩ := HRow.out (by omega)
      obtain ⟨b', o', rfl, hR'⟩ := HRow'.out (by omega)
      obtain ⟨cv, hd, a0, a1⟩ := (hR.later X) k e he
      obtain ⟨cv', hd', c0, c1⟩ := (hR'.later X) k e he
      have HEq : Hid (∀ W, Ext wr W → Calls Try.prog 25 #[.agg #[.int .i64 e.u, cv], .agg #[.int .i64 e.u, cv']] W fun z w' => z = .returned (.bool true) ∧ Ext W w') := fun W x => eqStep_same e.u cv cv' e.ch W (hd.later x) (hd'.later x) (HC.out e (List.mem_of_getElem? he))
      obtain ⟨eu, ech⟩ := e
      have i2 : (k : Int) < (n : Int) := by omega
      clear hR hR' he hd hd'
      dsimp only at a0 a1 c0 c1 HEq
      go_wp2_with fail
      go_region_held3 (fun w' => (w'.cell? ⟨b, o + k * 2, none⟩ = some (.int .i64 eu) ∧ w'.cell? ⟨b, o + k * 2 + 1, none⟩ = some cv) ∧ w'.cell? ⟨b', o' + k * 2, none⟩ = some (.int .i64 eu) ∧ w'.cell? ⟨b', o' + k * 2 + 1, none⟩ = some cv') (go_keep)
        (first
          | (go_at_call 25; refine (HEq.out _ (by first | exact xd (xr _) | exact xd (xd (xr _)) | exact xd (xd (xd (xr _))) | exact xr _)).mono ?_; rintro e w' ⟨rfl, E⟩; have Y := xt (xd (xr _)) E; have r0 := cell_later Y a0; have r1 := cell_later Y a1; have r2 := cell_later Y c0; have r3 := cell_later Y c1))
      all_goals go_wp2_with fail
      all_goals go_roundw
      all_goals first
        | exact ⟨k + 1, by omega, by go_num, xt X Y⟩
        | (simp [intOf]; omega)
    · obtain rfl : k = n := by omega
      go_wp2_with fail
      go_ret
      exact ⟨rfl, X⟩

end Go.Proofs.Ytmpemgpfjopkgaa
