/-
  Several texts in one: X9g, J15, Rh, Ru4, Rk, As0, Av.
-/
import Derived.Test.YtbomplppgobkdaaGreatDoorMg26
import Derived.Test.YtbomplppgobkdaaGreatDoorMg10
import Derived.Deep.AppendSrc
import Derived.Deep.Upon
import Derived.OwnWalk
import Derived.Laws.OwnMore
namespace Go.Proofs.YtbomplppgobkdaaGreatDoor
open Go.RowKit

/-- A block and a row may have changed, nothing else that was there. -/
structure OnlyTwo (b : Nat) (r : Option Nat) (w w' : World) : Prop where
  os : w'.os = w.os
  tape : w'.tape = w.tape
  output : w'.output = w.output
  size : w.heap.size ≤ w'.heap.size
  block : ∀ k, k ≠ b → some k ≠ r → k < w.heap.size → w'.heap[k]? = w.heap[k]?
theorem Only.two {b : Nat} {w w' : World} (h : Only b w w') (r : Option Nat) : OnlyTwo b r w w' := ⟨h.os, h.tape, h.output, h.size, fun k hk _ hl => h.block k hk hl⟩
theorem OnlyTwo.vec {b k : Nat} {r : Option Nat} {w w' : World} {l : List Value} (h : OnlyTwo b r w w') (hk : k ≠ b) (hr : some k ≠ r) (hl : k < w.heap.size) (V : Vec w k l) : Vec w' k l := vec_same V (h.block k hk hr hl)
theorem two_row {b g : Nat} {a w : World} (h : OnlyTwo b (some g) a w) (i : Nat) (u : Value) : OnlyTwo b (some g) a (w.setCell ⟨g, i, none⟩ u) :=
  ⟨h.os, h.tape, h.output, by rw [World.size_setCell]; exact h.size, fun k h1 h2 h3 => by rw [heap_setCell_other _ _ _ _ (fun e => h2 (congrArg some e))]; exact h.block k h1 h2 h3⟩
theorem RowAt.only {w w' : World} {b n : Nat} {v : Value} {M : List Value} (h : RowAt w v n M) (o : Only b w w') (hb : ∀ g, v.ownBlock = some g → b ≠ g) : RowAt w' v n M := h.keep o.to_grown (fun g _ hg e => hb g hg (by cases e; rfl))
theorem finOG {a w : World} {b base K r g n cap : Nat} {M : List Value} {i0 i1 : Int} {s0 : Value} (V : Vec w r [.int .i64 i0, .int .i64 i1, s0]) (C : Cur w b base K) (RA : RowAt w (.slice (some ⟨g, 0, none⟩) n cap) n M) (T : OnlyTwo b (some g) a w) (hr : a.heap.size ≤ r) (hb : b ≠ r) (hbase : base ≤ r) (hgr : g < a.heap.size) (R C' : Int) :
    ∃ wy, ((w.setCell ⟨r, 0, none⟩ (.int .i64 R)).setCell ⟨r, 1, none⟩ (.int .i64 C')).setCell ⟨r, 2, none⟩ (.slice (some ⟨g, 0, none⟩) n cap) = wy ∧ w.cell? ⟨r, 0, none⟩ = some (.int .i64 i0) ∧ w.cell? ⟨r, 1, none⟩ = some (.int .i64 i1) ∧ w.cell? ⟨r, 2, none⟩ = some s0 ∧ w.frozen? ⟨r, 0, none⟩ = false ∧ w.frozen? ⟨r, 1, none⟩ = false ∧ w.frozen? ⟨r, 2, none⟩ = false ∧ wy.cell? ⟨r, 0, none⟩ = some (.int .i64 R) ∧ wy.cell? ⟨r, 1, none⟩ = some (.int .i64 C') ∧ wy.cell? ⟨r, 2, none⟩ = some (.slice (some ⟨g, 0, none⟩) n cap) ∧ Cur wy b base K ∧ RowAt wy (.slice (some ⟨g, 0, none⟩) n cap) n M ∧ OnlyTwo b (some g) a wy := by
  obtain ⟨v0, v1, v2⟩ := Vec.three (((V.put 0 (by simp) (.int .i64 R)).put 1 (by simp) (.int .i64 C')).put 2 (by simp) (.slice (some ⟨g, 0, none⟩) n cap))
  obtain ⟨u0, u1, u2⟩ := V.three
  obtain ⟨f0, f1, f2⟩ := V.threeF
  have st : ∀ {w1 : World} {i : Nat} {u : Value}, OnlyTwo b (some g) a w1 → OnlyTwo b (some g) a (w1.setCell ⟨r, i, none⟩ u) := fun h => ⟨h.os, h.tape, h.output, by rw [World.size_setCell]; exact h.size, fun k h1 h2 h3 => by rw [heap_setCell_other _ _ _ _ (by show k ≠ r; omega)]; exact h.block k h1 h2 h3⟩
  have sr : ∀ {w1 : World} {i : Nat} {u : Value}, RowAt w1 (.slice (some ⟨g, 0, none⟩) n cap) n M → RowAt (w1.setCell ⟨r, i, none⟩ u) (.slice (some ⟨g, 0, none⟩) n cap) n M := fun h => by
    obtain ⟨h1, p, c, hv, hc, hp⟩ := h
    refine ⟨h1, p, c, hv, hc, fun h0 => ?_⟩
    obtain ⟨g', rfl, V'⟩ := hp h0
    cases hv
    exact ⟨g, rfl, V'.far (by show r ≠ g; omega) _⟩
  exact ⟨_, rfl, u0, u1, u2, f0, f1, f2, v0, v1, v2, ((C.far hb hbase _).far hb hbase _).far hb hbase _, sr (sr (sr RA)), st (st (st T))⟩
set_option maxRecDepth 8000 in
set_option maxHeartbeats 2000000 in
theorem oddGridC (b base K : Nat) (R C : Int) (sv : Value) (l : List VT) (w : World) (h : Cur w b base K) (hK : K ≤ 900000) (hr : RowAt w sv l.length (flatV l)) (hb : ∀ g, sv.ownBlock = some g → b ≠ g ∧ base ≤ g) (h0 : 0 < l.length) (hl : l.length ≤ 64) (he : ∀ q ∈ l, okE q) (R0 : 0 ≤ R) (R1 : R ≤ 10) :
    Calls Tryz.prog 39 #[.pointer (some ⟨b, 0, none⟩), grV R C sv] w fun e w' => (∃ (R' C' : Int) (l' : List VT), e = .returned (grV R' C' sv) ∧ RowAt w' sv l'.length (flatV l') ∧ l'.length = l.length ∧ ∀ q ∈ l', okE q) ∧ Cur w' b base (K + 4) ∧ OnlyTwo b sv.ownBlock w w' := by
  have bl := h.lt
  have bb := h.baseC
  obtain ⟨hM, ps, cap, rfl, hcap, hp⟩ := id hr
  obtain ⟨g, rfl, VR⟩ := hp h0
  have hbg := hb g rfl
  have ltg : g < w.heap.size := World.block_lt_of_cell? w ⟨g, 0, none⟩ (VR 0 _ (List.getElem?_eq_getElem (by omega))).1
  have hOb : Hid ((Value.slice (some ⟨g, 0, none⟩) l.length cap).ownBlock = some g) := rfl
  obtain ⟨n, hn⟩ : ∃ n, l.length = n := ⟨_, rfl⟩
  have HN : Hid (l.length = n) := hn
  rw [hn] at hr hcap h0 hl hOb ⊢
  clear hp hn
  obtain ⟨u0, u1, hh0, h1, s0, s1, B0, B1, X⟩ := mkB2 w [.int .i64 R, .int .i64 C, .slice (some ⟨g, 0, none⟩) n cap] [.int .i64 0, .int .i64 0, .slice none 0 0] 25 25
  have C0 := h.ext X
  go_enter Tryz.func39, Tryz.ntmps39
  go_wp2_with fail
  clear hh0 h1
  refine (pickC b base K 40 _ C0 (by omega) (by omega) (by omega)).mono ?_
  rintro e w1 ⟨y, rfl, ⟨y0, y9⟩, C1, o1⟩
  have V0 := o1.vecC (by omega) B0
  have V1 := o1.vecC (by omega) B1
  have O1 := (Only.of_ext X).trans o1
  have RA : RowAt w1 (.slice (some ⟨g, 0, none⟩) n cap) n (flatV l) := hr.only O1 (fun q hq => by have := hb q hq; omega)
  clear C0 o1 X B0 B1 s0 s1
  by_cases q0 : y = 0
  · subst q0
    clear y0 y9
    go_upto_region 3 with fail
    refine wp_region_letters (fun lx : Nat → Value => { tmps := #[Value.pointer (some ⟨b, 0, none⟩), grV R C (Value.slice (some ⟨g, 0, none⟩) n cap), undef, Value.pointer (some ⟨w.heap.size, 0, none⟩), Value.pointer (some ⟨w.heap.size + 1, 0, none⟩), Value.pointer (some ⟨b, 0, none⟩), Value.int .i64 0, Value.bool true, Value.bool true, lx 9, lx 10, lx 11, lx 12, lx 13, lx 14, lx 15, undef, undef, undef, undef, undef, undef, undef, undef, undef, undef], defers := [] }) (fun L lx lw => Hid (Only b w lw ∧ (L 3 = false → Cur lw b base (K + 2)) ∧ (L 3 = true → Cur lw b base (K + 2 + 2)) ∧ (L 7 = false → Vec lw w.heap.size [.int .i64 R, .int .i64 C, .slice (some ⟨g, 0, none⟩) n cap]) ∧ (L 7 = true → ∃ R2 : Int, Vec lw w.heap.size [.int .i64 R2, .int .i64 C, .slice (some ⟨g, 0, none⟩) n cap]) ∧ Vec lw (w.heap.size + 1) [.int .i64 0, .int .i64 0, .slice none 0 0] ∧ (L 0 = true → lx 9 = Value.pointer (some ⟨w.heap.size, 0, none⟩)) ∧ (L 1 = true → lx 10 = .int .i64 R) ∧ (L 2 = true → lx 11 = Value.pointer (some ⟨b, 0, none⟩)) ∧ (L 3 = true → ∃ z : Int, lx 12 = .int .i64 z ∧ 0 ≤ z ∧ z < 3) ∧ (L 4 = true → ∃ z : Int, lx 13 = .int .i64 z ∧ -1 ≤ z ∧ z < 2) ∧ (L 5 = true → ∃ z : Int, lx 14 = .int .i64 z) ∧ (L 6 = true → lx 15 = Value.pointer (some ⟨w.heap.size, 0, none⟩)) ∧ (L 7 = true → L 1 = true))) rfl (by kernel_rfl) (fun jj => undef) rfl ?_ ?_ ?_
    · have DD := xd (xr w1)
      exact ⟨O1.trans (Only.of_ext DD), (fun _ => C1.ext DD), (fun z => by cases z), (fun _ => V0.later DD), (fun z => by cases z), V1.later DD, (fun z => by cases z), (fun z => by cases z), (fun z => by cases z), (fun z => by cases z), (fun z => by cases z), (fun z => by cases z), (fun z => by cases z), (fun z => by cases z)⟩
    · intro L lx wl i o K1 hK ho hL haf hI
      obtain ⟨f0, f1, f2, f3, f4, f5, f6, f7, f8, f9, f10, f11, f12, f13⟩ := hI.out
      match i, ho, hL, haf, hK with
      | 0, ho, hL, haf, hK =>
        cases ho
        (try dsimp only)
        go_wp2_with fail
        exact hK (fun jj => if jj = 9 then Value.pointer (some ⟨w.heap.size, 0, none⟩) else lx jj) _ ⟨f0, f1, f2, f3, f4, f5, (fun _ => rfl), f7, f8, f9, f10, f11, f12, f13⟩
      | 1, ho, hL, haf, hK =>
        cases ho
        (try dsimp only)
        have h7 : L 7 = false := by
          cases hh : L 7 with
          | false => rfl
          | true => have := f13 hh; rw [hL] at this; cases this
        have a0 := ((f3 h7) 0 _ rfl).1
        rw [f6 (haf ⟨0, .data⟩ (by simp) rfl)]
        go_wp2_with fail
        exact hK (fun jj => if jj = 10 then .int .i64 R else if jj = 9 then Value.pointer (some ⟨w.heap.size, 0, none⟩) else lx jj) _ ⟨f0, f1, f2, f3, f4, f5, (fun _ => rfl), (fun _ => rfl), f8, f9, f10, f11, f12, (fun _ => rfl)⟩
      | 2, ho, hL, haf, hK =>
        cases ho
        (try dsimp only)
        go_wp2_with fail
        exact hK (fun jj => if jj = 11 then Value.pointer (some ⟨b, 0, none⟩) else lx jj) _ ⟨f0, f1, f2, f3, f4, f5, f6, f7, (fun _ => rfl), f9, f10, f11, f12, f13⟩
      | 3, ho, hL, haf, hK =>
        cases ho
        (try dsimp only)
        rw [f8 (haf ⟨2, .data⟩ (by simp) rfl)]
        go_wp2_with fail
        refine (pickC b base _ 3 wl (f1 hL) (by omega) (by omega) (by omega)).mono ?_
        rintro rr w' ⟨z, rfl, zb, CC, o⟩
        go_wp2_with fail
        exact hK (fun jj => if jj = 12 then .int .i64 z else if jj = 11 then Value.pointer (some ⟨b, 0, none⟩) else lx jj) _ ⟨(f0.trans o), (fun z => by cases z), (fun _ => CC), (fun z => o.vecC (by omega) (f3 z)), (fun z => by obtain ⟨r2, g1⟩ := f4 z; exact ⟨r2, o.vecC (by omega) g1⟩), (o.vecC (by omega) f5), f6, f7, (fun _ => rfl), (fun _ => ⟨z, rfl, zb⟩), f10, f11, f12, f13⟩
      | 4, ho, hL, haf, hK =>
        cases ho
        (try dsimp only)
        obtain ⟨z, e12, z0, z1⟩ := f9 (haf ⟨3, .data⟩ (by simp) rfl)
        rw [e12]
        go_wp2_with fail
        exact hK (fun jj => if jj = 13 then .int .i64 (z - 1) else if jj = 12 then .int .i64 z else lx jj) _ ⟨f0, f1, f2, f3, f4, f5, f6, f7, f8, (fun _ => ⟨z, rfl, z0, z1⟩), (fun _ => ⟨z - 1, rfl, by omega, by omega⟩), f11, f12, f13⟩
      | 5, ho, hL, haf, hK =>
        cases ho
        (try dsimp only)
        obtain ⟨z, e13, z0, z1⟩ := f10 (haf ⟨4, .data⟩ (by simp) rfl)
        rw [f7 (haf ⟨1, .data⟩ (by simp) rfl), e13]
        go_wp2_with fail
        exact hK (fun jj => if jj = 14 then .int .i64 (R + z) else if jj = 10 then .int .i64 R else if jj = 13 then .int .i64 z else lx jj) _ ⟨f0, f1, f2, f3, f4, f5, f6, (fun _ => rfl), f8, f9, (fun _ => ⟨z, rfl, z0, z1⟩), (fun _ => ⟨R + z, rfl⟩), f12, f13⟩
      | 6, ho, hL, haf, hK =>
        cases ho
        (try dsimp only)
        go_wp2_with fail
        exact hK (fun jj => if jj = 15 then Value.pointer (some ⟨w.heap.size, 0, none⟩) else lx jj) _ ⟨f0, f1, f2, f3, f4, f5, f6, f7, f8, f9, f10, f11, (fun _ => rfl), f13⟩
      | 7, ho, hL, haf, hK =>
        cases ho
        (try dsimp only)
        obtain ⟨z, e14⟩ := f11 (haf ⟨5, .data⟩ (by simp) rfl)
        have VC := f3 hL
        have q0 := (VC 0 _ rfl).1
        have p0 := (VC 0 _ rfl).2
        rw [f12 (haf ⟨6, .data⟩ (by simp) rfl), e14]
        have VD : Vec (wl.setCell ⟨w.heap.size, 0, none⟩ (.int .i64 z)) w.heap.size [.int .i64 z, .int .i64 C, .slice (some ⟨g, 0, none⟩) n cap] := VC.put 0 (by simp) _
        go_wp2_with fail
        exact hK (fun jj => if jj = 14 then .int .i64 z else if jj = 15 then Value.pointer (some ⟨w.heap.size, 0, none⟩) else lx jj) _ ⟨(f0.setNew (Nat.le_refl _) _), (fun z => (f1 z).far (by omega) (by omega) _), (fun z => (f2 z).far (by omega) (by omega) _), (fun z => by cases z), (fun _ => ⟨z, VD⟩), (f5.far (p := ⟨w.heap.size, 0, none⟩) (by show w.heap.size ≠ _; omega) _), f6, f7, f8, f9, f10, (fun _ => ⟨z, rfl⟩), (fun _ => rfl), (fun _ => (haf ⟨1, .phase⟩ (by simp) rfl))⟩
      | k + 8, ho, _, _, _ => simp at ho
    · intro L lx w5 hall hI
      obtain ⟨f0, f1, f2, f3, f4, f5, f6, f7, f8, f9, f10, f11, f12, f13⟩ := hI.out
      clear hI
      obtain ⟨R2, W0⟩ := f4 (hall 7 (by simp))
      have V0 := W0
      have V1 := f5
      have C1 := f2 (hall 3 (by simp))
      have O1 := f0
      have RA : RowAt w5 (.slice (some ⟨g, 0, none⟩) n cap) n (flatV l) := hr.only O1 (fun q hq => by have := hb q hq; omega)
      clear hall f0 f1 f2 f3 f4 f5 f6 f7 f8 f9 f10 f11 f12 f13 W0
      (try dsimp only)
      have T1 := O1.two (some g)
      obtain ⟨a0, a1, a2⟩ := Vec.three (V0)
      obtain ⟨wy, hy, b0, b1, b2, fb0, fb1, fb2, fd0, fd1, fd2, CF, RF, TF⟩ := finOG V1 C1 RA T1 (Nat.le_succ _) (by omega) (by omega) ltg (R2) (C)
      go_wp2_with fail
      exact bodyPost_ret (v := grV (R2) (C) (.slice (some ⟨g, 0, none⟩) n cap)) (by simp [results, Tryz.results39, go_sem, fd0, fd1, fd2]) rfl ⟨⟨_, _, l, rfl, by rw [HN.out]; exact RF, by rw [HN.out], he⟩, CF.more (by omega), by rw [hOb.out]; exact TF⟩
  · have e0 : (y == 0) = false := by simpa using q0
    by_cases q1 : y = 1
    · subst q1
      clear y0 y9
      obtain ⟨e0, m, rfl⟩ : ∃ e0 m, l = e0 :: m := by
        cases l with
        | nil => have := HN.out; simp at this; omega
        | cons e0 m => exact ⟨e0, m, rfl⟩
      obtain ⟨hM1, p1, c1, hv1, _, hp1⟩ := RA
      obtain ⟨g', hg', VR1⟩ := hp1 h0
      have hgg : g = g' := by cases hv1; cases hg'; rfl
      subst hgg
      obtain ⟨b0, fb0⟩ := VR1 0 _ rfl
      obtain ⟨b1, fb1⟩ := VR1 1 _ rfl
      obtain ⟨b2, fb2⟩ := VR1 2 _ rfl
      obtain ⟨b3, fb3⟩ := VR1 3 _ rfl
      obtain ⟨b4, fb4⟩ := VR1 4 _ rfl
      obtain ⟨dd0, dd1, dd2⟩ := Vec.three V0
      have VN : Vec (setL w1 g 0 [.int .i64 9, .bool false, .int .i64 0, .int .i64 0, sV []]) g (flatV (⟨9, false, 0, 0, []⟩ :: m)) := ((((VR1.put 0 (by simp [flatV]) _).put 1 (by simp [flatV]) _).put 2 (by simp [flatV]) _).put 3 (by simp [flatV]) _).put 4 (by simp [flatV]) _
      have V0 := Vec.farL (k := g) (by omega) [.int .i64 9, .bool false, .int .i64 0, .int .i64 0, sV []] 0 V0
      have V1 := Vec.farL (k := g) (by omega) [.int .i64 9, .bool false, .int .i64 0, .int .i64 0, sV []] 0 V1
      have C1 : Cur (setL w1 g 0 [.int .i64 9, .bool false, .int .i64 0, .int .i64 0, sV []]) b base _ := ((((C1.far (g := g) (i := 0) hbg.1 hbg.2 _).far (g := g) (i := 1) hbg.1 hbg.2 _).far (g := g) (i := 2) hbg.1 hbg.2 _).far (g := g) (i := 3) hbg.1 hbg.2 _).far (g := g) (i := 4) hbg.1 hbg.2 _
      have T1 : OnlyTwo b (some g) w (setL w1 g 0 [.int .i64 9, .bool false, .int .i64 0, .int .i64 0, sV []]) := two_row (two_row (two_row (two_row (two_row (O1.two (some g)) _ _) _ _) _ _) _ _) _ _
      obtain ⟨ws, hs⟩ : ∃ q, setL w1 g 0 [.int .i64 9, .bool false, .int .i64 0, .int .i64 0, sV []] = q := ⟨_, rfl⟩
      rw [hs] at VN V0 V1 C1 T1
      have hs : ((((w1.setCell ⟨g, 0, none⟩ (.int .i64 9)).setCell ⟨g, 1, none⟩ (.bool false)).setCell ⟨g, 2, none⟩ (.int .i64 0)).setCell ⟨g, 3, none⟩ (.int .i64 0)).setCell ⟨g, 4, none⟩ (sV []) = ws := hs
      have RA : RowAt ws (.slice (some ⟨g, 0, none⟩) n cap) n (flatV (⟨9, false, 0, 0, []⟩ :: m)) := ⟨by rw [flatV_length]; have := HN.out; simp at this ⊢; omega, _, cap, rfl, hcap, fun _ => ⟨g, rfl, VN⟩⟩
      have i2 : (0 : Int) < (n : Int) := by omega
      have hL1 : (⟨9, false, 0, 0, []⟩ :: m : List VT).length = n := by have := HN.out; simp at this ⊢; omega
      obtain ⟨a0, a1, a2⟩ := Vec.three (V0)
      obtain ⟨wy, hy, c0, c1, c2, fc0, fc1, fc2, fd0, fd1, fd2, CF, RF, TF⟩ := finOG V1 C1 RA T1 (Nat.le_succ _) (by omega) (by omega) ltg (R) (C)
      go_wp2_with fail
      exact bodyPost_ret (v := grV (R) (C) (.slice (some ⟨g, 0, none⟩) n cap)) (by simp [results, Tryz.results39, go_sem, fd0, fd1, fd2]) rfl ⟨⟨_, _, (⟨9, false, 0, 0, []⟩ :: m), rfl, by rw [hL1]; exact RF, hL1, (fun q hq => by rcases List.mem_cons.1 hq with rfl | hq; exact ⟨by show (0 : Int) ≤ 0; omega, by show (0 : Int) < _; omega, by simp⟩; exact he q (List.mem_cons_of_mem _ hq))⟩, CF.more (by omega), by rw [hOb.out]; exact TF⟩
    · have e1 : (y == 1) = false := by simpa using q1
      by_cases q2 : y = 2
      · subst q2
        clear y0 y9
        obtain ⟨b1, fb1⟩ := V0 1 _ rfl
        have V2 : Vec (w1.setCell ⟨w.heap.size, 1, none⟩ (.int .i64 0)) w.heap.size [.int .i64 R, .int .i64 0, .slice (some ⟨g, 0, none⟩) n cap] := V0.put 1 (by simp) _
        have V1 := V1.far (p := ⟨w.heap.size, 1, none⟩) (by show w.heap.size ≠ _; omega) (.int .i64 0)
        have C1 := C1.far (g := w.heap.size) (i := 1) (by omega) (by omega) (.int .i64 0)
        have O1 := O1.setNew (g := w.heap.size) (i := 1) (Nat.le_refl _) (.int .i64 0)
        obtain ⟨ws, hs⟩ : ∃ q, w1.setCell ⟨w.heap.size, 1, none⟩ (.int .i64 0) = q := ⟨_, rfl⟩
        rw [hs] at V1 V2 C1 O1
        have V0 := V2
        have RA : RowAt ws (.slice (some ⟨g, 0, none⟩) n cap) n (flatV l) := hr.only O1 (fun q hq => by have := hb q hq; omega)
        clear V2
        have T1 := O1.two (some g)
        obtain ⟨a0, a1, a2⟩ := Vec.three (V0)
        obtain ⟨wy, hy, b0, b1, b2, fb0, fb1, fb2, fd0, fd1, fd2, CF, RF, TF⟩ := finOG V1 C1 RA T1 (Nat.le_succ _) (by omega) (by omega) ltg (R) (0)
        go_wp2_with fail
        exact bodyPost_ret (v := grV (R) (0) (.slice (some ⟨g, 0, none⟩) n cap)) (by simp [results, Tryz.results39, go_sem, fd0, fd1, fd2]) rfl ⟨⟨_, _, l, rfl, by rw [HN.out]; exact RF, by rw [HN.out], he⟩, CF.more (by omega), by rw [hOb.out]; exact TF⟩
      · have e2 : (y == 2) = false := by simpa using q2
        have T1 := O1.two (some g)
        obtain ⟨a0, a1, a2⟩ := Vec.three (V0)
        obtain ⟨wy, hy, b0, b1, b2, fb0, fb1, fb2, fd0, fd1, fd2, CF, RF, TF⟩ := finOG V1 C1 RA T1 (Nat.le_succ _) (by omega) (by omega) ltg (R) (C)
        go_wp2_with fail
        exact bodyPost_ret (v := grV (R) (C) (.slice (some ⟨g, 0, none⟩) n cap)) (by simp [results, Tryz.results39, go_sem, fd0, fd1, fd2]) rfl ⟨⟨_, _, l, rfl, by rw [HN.out]; exact RF, by rw [HN.out], he⟩, CF.more (by omega), by rw [hOb.out]; exact TF⟩

def tabT : List (List UInt8) := [[110, 111, 114, 116, 104], [83, 111, 117, 116, 104], [115, 111, 117, 116, 104], [101, 97, 115, 116]]
/-- A table on its way: what is known at a round. -/
structure TabJ (a : World) (b base gO R C K : Nat) (l : List VT) (p : Option Addr) (cc : Nat) (wr : World) : Prop where
  only : Only b a wr
  cur : Cur wr b base K
  vz : Vec wr a.heap.size [.int .i64 0, .int .i64 0, .slice none 0 0]
  vo : Vec wr gO [.int .i64 (R : Int), .int .i64 (C : Int), .slice p l.length cc]
  vw : Vec wr (gO + 1) (tabT.map sV)
  ow : OwnW wr (gO + 2) (.slice p l.length cc) l
  ok : ∀ q ∈ l, okE q
  bl : base ≤ b ∧ b < a.heap.size ∧ a.heap.size < gO
/-- What a round holds of its value. -/
structure BodJ (wr : World) (b base K gv : Nat) (k : Int) (n : Bool) (d x : Int) (t : List UInt8) (wc : World) : Prop where
  only : Only b wr wc
  cur : Cur wc b base K
  vec : Vec wc gv [.int .i64 k, .bool n, .int .i64 d, .int .i64 x, sV t]
  ok : okE ⟨k, n, d, x, t⟩
  gv : wr.heap.size ≤ gv ∧ b < wr.heap.size ∧ base ≤ b
theorem BodJ.put {wr wc : World} {b base K gv : Nat} {k : Int} {n : Bool} {d x : Int} {t : List UInt8} (h : BodJ wr b base K gv k n d x t wc) (k' : Int) (n' : Bool) (d' x' : Int) (t' : List UInt8) (ok : okE ⟨k', n', d', x', t'⟩) :
    ∃ wy, ((((wc.setCell ⟨gv, 0, none⟩ (.int .i64 k')).setCell ⟨gv, 1, none⟩ (.bool n')).setCell ⟨gv, 2, none⟩ (.int .i64 d')).setCell ⟨gv, 3, none⟩ (.int .i64 x')).setCell ⟨gv, 4, none⟩ (sV t') = wy ∧ BodJ wr b base K gv k' n' d' x' t' wy ∧ (wc.cell? ⟨gv, 0, none⟩ = some (.int .i64 k) ∧ wc.cell? ⟨gv, 1, none⟩ = some (.bool n) ∧ wc.cell? ⟨gv, 2, none⟩ = some (.int .i64 d) ∧ wc.cell? ⟨gv, 3, none⟩ = some (.int .i64 x) ∧ wc.cell? ⟨gv, 4, none⟩ = some (sV t)) ∧ wc.frozen? ⟨gv, 0, none⟩ = false ∧ wc.frozen? ⟨gv, 1, none⟩ = false ∧ wc.frozen? ⟨gv, 2, none⟩ = false ∧ wc.frozen? ⟨gv, 3, none⟩ = false ∧ wc.frozen? ⟨gv, 4, none⟩ = false := by
  have hg := h.gv
  have V := h.vec
  have far : ∀ {W : World} {i : Nat} {u : Value}, Only b wr W ∧ Cur W b base K → Only b wr (W.setCell ⟨gv, i, none⟩ u) ∧ Cur (W.setCell ⟨gv, i, none⟩ u) b base K := fun q => ⟨q.1.setNew (by omega) _, q.2.far (by omega) (by omega) _⟩
  have q := far (i := 4) (u := sV t') (far (i := 3) (u := .int .i64 x') (far (i := 2) (u := .int .i64 d') (far (i := 1) (u := .bool n') (far (i := 0) (u := .int .i64 k') ⟨h.only, h.cur⟩))))
  exact ⟨_, rfl, ⟨q.1, q.2, ((((V.put 0 (by simp) (.int .i64 k')).put 1 (by simp) (.bool n')).put 2 (by simp) (.int .i64 d')).put 3 (by simp) (.int .i64 x')).put 4 (by simp) (sV t'), ok, hg⟩, ⟨(V 0 _ rfl).1, (V 1 _ rfl).1, (V 2 _ rfl).1, (V 3 _ rfl).1, (V 4 _ rfl).1⟩, (V 0 _ rfl).2, (V 1 _ rfl).2, (V 2 _ rfl).2, (V 3 _ rfl).2, (V 4 _ rfl).2⟩
theorem BodJ.made {wr w : World} {b base K : Nat} (o : Only b wr w) (c : Cur w b base K) (hb : b < wr.heap.size) (hbb : base ≤ b) (k : Int) (n : Bool) (d x : Int) (t : List UInt8) (ok : okE ⟨k, n, d, x, t⟩) :
    ∃ wz wy, w.alloc (.cells #[.int .i64 0, .bool false, .int .i64 0, .int .i64 0, sV []] 50) = wz ∧ ((((wz.setCell ⟨w.heap.size, 0, none⟩ (.int .i64 k)).setCell ⟨w.heap.size, 1, none⟩ (.bool n)).setCell ⟨w.heap.size, 2, none⟩ (.int .i64 d)).setCell ⟨w.heap.size, 3, none⟩ (.int .i64 x)).setCell ⟨w.heap.size, 4, none⟩ (sV t) = wy ∧ BodJ wr b base K w.heap.size k n d x t wy ∧ (wz.cell? ⟨w.heap.size, 0, none⟩ = some (.int .i64 0) ∧ wz.cell? ⟨w.heap.size, 1, none⟩ = some (.bool false) ∧ wz.cell? ⟨w.heap.size, 2, none⟩ = some (.int .i64 0) ∧ wz.cell? ⟨w.heap.size, 3, none⟩ = some (.int .i64 0) ∧ wz.cell? ⟨w.heap.size, 4, none⟩ = some (sV [])) ∧ wz.frozen? ⟨w.heap.size, 0, none⟩ = false ∧ wz.frozen? ⟨w.heap.size, 1, none⟩ = false ∧ wz.frozen? ⟨w.heap.size, 2, none⟩ = false ∧ wz.frozen? ⟨w.heap.size, 3, none⟩ = false ∧ wz.frozen? ⟨w.heap.size, 4, none⟩ = false := by
  have X := x1 w (.cells #[.int .i64 0, .bool false, .int .i64 0, .int .i64 0, sV []] 50)
  have V := vec_made w [.int .i64 0, .bool false, .int .i64 0, .int .i64 0, sV []] 50
  have B0 : BodJ wr b base K w.heap.size 0 false 0 0 [] _ := ⟨o.trans (Only.of_ext X), c.ext X, V, ⟨by decide, by decide, by decide⟩, o.size, hb, hbb⟩
  obtain ⟨wy, h1, h2, h3, h4⟩ := B0.put k n d x t ok
  exact ⟨_, wy, rfl, h1, h2, h3, h4⟩
theorem finTJ {a w : World} {b base K r n cap : Nat} {p : Option Addr} {M : List Value} (V : Vec w r [.int .i64 0, .int .i64 0, .slice none 0 0]) (C : Cur w b base K) (RA : RowAt w (.slice p n cap) n M) (O : Only b a w) (hr : a.heap.size ≤ r) (hb : b ≠ r) (hbase : base ≤ r) (hg : ∀ g, (Value.slice p n cap).ownBlock = some g → g ≠ r) (R C' : Int) :
    ∃ wy, ((w.setCell ⟨r, 0, none⟩ (.int .i64 R)).setCell ⟨r, 1, none⟩ (.int .i64 C')).setCell ⟨r, 2, none⟩ (.slice p n cap) = wy ∧ w.cell? ⟨r, 0, none⟩ = some (.int .i64 0) ∧ w.cell? ⟨r, 1, none⟩ = some (.int .i64 0) ∧ w.cell? ⟨r, 2, none⟩ = some (.slice none 0 0) ∧ w.frozen? ⟨r, 0, none⟩ = false ∧ w.frozen? ⟨r, 1, none⟩ = false ∧ w.frozen? ⟨r, 2, none⟩ = false ∧ wy.cell? ⟨r, 0, none⟩ = some (.int .i64 R) ∧ wy.cell? ⟨r, 1, none⟩ = some (.int .i64 C') ∧ wy.cell? ⟨r, 2, none⟩ = some (.slice p n cap) ∧ Cur wy b base K ∧ RowAt wy (.slice p n cap) n M ∧ Only b a wy := by
  obtain ⟨v0, v1, v2⟩ := Vec.three (((V.put 0 (by simp) (.int .i64 R)).put 1 (by simp) (.int .i64 C')).put 2 (by simp) (.slice p n cap))
  obtain ⟨u0, u1, u2⟩ := V.three
  obtain ⟨f0, f1, f2⟩ := V.threeF
  have sr : ∀ {w1 : World} {i : Nat} {u : Value}, RowAt w1 (.slice p n cap) n M → RowAt (w1.setCell ⟨r, i, none⟩ u) (.slice p n cap) n M := fun h => by
    obtain ⟨h1, p', c, hv, hc, hp⟩ := h
    refine ⟨h1, p', c, hv, hc, fun h0 => ?_⟩
    obtain ⟨g', rfl, V'⟩ := hp h0
    cases hv
    exact ⟨g', rfl, V'.far (by have := hg g' rfl; show r ≠ g'; omega) _⟩
  exact ⟨_, rfl, u0, u1, u2, f0, f1, f2, v0, v1, v2, ((C.far hb hbase _).far hb hbase _).far hb hbase _, sr (sr (sr RA)), ((O.setNew hr _).setNew hr _).setNew hr _⟩
theorem only_two {a w w' : World} {b : Nat} {r : Option Nat} (o : Only b a w) (t : OnlyTwo b r w w') (hr : ∀ g, r = some g → a.heap.size ≤ g) : Only b a w' :=
  ⟨t.os.trans o.os, t.tape.trans o.tape, t.output.trans o.output, Nat.le_trans o.size t.size, fun k hk hl => (t.block k hk (fun e => by have := hr k e.symm; omega) (Nat.lt_of_lt_of_le hl o.size)).trans (o.block k hk hl)⟩

section
variable {P : Program} {ops : Array Oper} {Q : Exit → Act → World → Prop}

/-- The edges go back. -/
def rhOk (md : Region.Mode) (ops : Array Oper) : Bool :=
  (List.range ops.size).all fun i =>
    match ops[i]? with
    | none => true
    | some o => o.after.all fun e => !Region.binds md e || decide (e.on < i)
theorem rhOk_spec {md : Region.Mode} (h : rhOk md ops = true) {i : Nat} {o : Oper} (hi : ops[i]? = some o) : ∀ e ∈ o.after, Region.binds md e = true → e.on < i := by
  have hlt : i < ops.size := by
    rcases Nat.lt_or_ge i ops.size with h' | h'
    · exact h'
    · rw [Array.getElem?_eq_none h'] at hi; cases hi
  have := (List.all_eq_true.1 h) i (List.mem_range.2 hlt)
  rw [hi] at this
  intro e he hb
  have h2 := (Array.all_eq_true_iff_forall_mem.1 this) e he
  rw [hb] at h2
  simpa using h2
theorem wpOp_of_ops_g {i : Nat} {o : Oper} {K : Act → World → Prop} {a : Act} {w : World} (ho : ops[i]? = some o)
    (h : if Region.wanted o (yielded ops a.tmps) = true then wpList P #[{ o with guard := none }] (Exit.then K Q) [{ o with guard := none }] a w else K (a.put o.dst undef) w) : wpOp P ops Q i K a w := by
  unfold wpOp
  simp only [ho]
  split
  · next hw =>
    rw [if_pos hw] at h
    simp only [wpList, Region.wanted, if_true] at h
    rcases h with h | ⟨h1, h2⟩
    · left
      unfold Oper.wp at *
      have e : execOp a.eval { o with guard := none } = execOp a.eval o := rfl
      rw [e] at h
      generalize (execOp a.eval o).run P w = r at *
      cases r with
      | ok n w' =>
        cases n
        case enter f args =>
          refine Calls.mono h fun e w'' he => ?_
          cases e <;> exact he
        all_goals exact h
      | halt x w' => cases x <;> exact h
    · exact .inr ⟨h1, h2⟩
  · next hw =>
    rw [if_neg hw] at h
    exact h

theorem all_listed_g {md : Region.Mode} (hc : rhOk md ops = true) {listed : Array Bool} (hsz : listed.size = ops.size) (hr : Region.ready md ops listed = []) : ∀ i, i < ops.size → listed.getD i false = true := by
  intro i
  induction i using Nat.strongRecOn with
  | ind i ih =>
    intro hi
    cases hl : listed.getD i false with
    | true => rfl
    | false =>
      exfalso
      have hlt : i < listed.size := by omega
      have h1 : listed.getD i true = false := by
        rw [Array.getD_eq_getD_getElem?, Array.getElem?_eq_getElem hlt] at hl ⊢
        exact hl
      have ho : ops[i]? = some ops[i] := Array.getElem?_eq_getElem hi
      have hlow := rhOk_spec hc ho
      have : i ∈ Region.ready md ops listed := mem_ready.2 ⟨h1, _, ho, fun e he hb => ih e.on (hlow e he hb) (Nat.lt_trans (hlow e he hb) hi)⟩
      rw [hr] at this
      cases this

/-- THE REGION. -/
theorem wp_region_letters_g {X : Type} {id : Nat} {a : Act} {w : World} (F : X → Act) (I : (Nat → Bool) → X → World → Prop) (hm : P.follows .mixedOrders = true) (hc : rhOk .any ops = true)
    (x0 : X) (h0 : a = F x0) (hI : I (fun _ => false) x0 { w with drawn := w.drawn + 1 })
    (step : ∀ L x w i o (K : Act → World → Prop), (∀ x' w', I (fun j => if j = i then true else L j) x' w' → K (F x') w') → ops[i]? = some o → L i = false → (∀ e ∈ o.after, Region.binds .any e = true → L e.on = true) → I L x w →
      if Region.wanted o (yielded ops (F x).tmps) = true then wpList P #[{ o with guard := none }] (Exit.then K Q) [{ o with guard := none }] (F x) w else K ((F x).put o.dst undef) w)
    (fin : ∀ L x w, (∀ j, j < ops.size → L j = true) → I L x w → Q .normal (F x) w) : (Code.region id ops true).wp P Q a w := by
  refine wp_region_inv (fun listed a w => listed.size = ops.size ∧ ∃ x, a = F x ∧ I (fun j => listed.getD j false) x w) hm ?_ ?_ ?_
  · refine ⟨by simp, x0, h0, ?_⟩
    have e : (fun j => (Array.replicate ops.size false).getD j false) = fun _ => false := by
      funext j
      rw [Array.getD_eq_getD_getElem?]
      rcases Nat.lt_or_ge j ops.size with h' | h'
      · rw [Array.getElem?_eq_getElem (by simpa using h')]; simp
      · rw [Array.getElem?_eq_none (by simpa using h')]; simp
    rw [e]
    exact hI
  · rintro listed a w i o ⟨hs, x, rfl, hx⟩ hi ho
    obtain ⟨hun, o', ho', hall⟩ := mem_ready.1 hi
    have : o' = o := by rw [ho] at ho'; exact (Option.some.inj ho').symm
    subst this
    have hlt : i < listed.size := by
      rcases Nat.lt_or_ge i listed.size with h' | h'
      · exact h'
      · rw [Array.getD_eq_getD_getElem?, Array.getElem?_eq_none h'] at hun; cases hun
    have hun' : listed.getD i false = false := by
      rw [Array.getD_eq_getD_getElem?, Array.getElem?_eq_getElem hlt] at hun ⊢
      exact hun
    refine wpOp_mono ?_ (wpOp_of_ops_g ho (step _ x w i o' (fun a' w' => ∃ x', a' = F x' ∧ I (fun j => if j = i then true else listed.getD j false) x' w') (fun x' w' h => ⟨x', rfl, h⟩) ho hun' hall hx))
    rintro a' w' ⟨x', rfl, hx'⟩
    refine ⟨by simp [hs], x', rfl, ?_⟩
    have e : (fun j => (listed.setIfInBounds i true).getD j false) = fun j => if j = i then true else listed.getD j false := by
      funext j
      by_cases hj : j = i
      · subst hj
        rw [if_pos rfl, Array.getD_eq_getD_getElem?, Array.getElem?_setIfInBounds_self_of_lt hlt]
        rfl
      · rw [if_neg hj, getD_set_ne false (fun e => hj e.symm)]
    rw [e]
    exact hx'
  · rintro listed a w hr ⟨hs, x, rfl, hx⟩
    exact fin _ x w (all_listed_g hc hs hr) hx

end

/-- Such a grid on its way: what is known at a round. -/
structure RepJ (a : World) (b base gO gA gB R C K : Nat) (A B : VT) (l : List VT) (p : Option Addr) (cc : Nat) (wr : World) : Prop where
  only : Only b a wr
  cur : Cur wr b base K
  vz : Vec wr a.heap.size [.int .i64 0, .int .i64 0, .slice none 0 0]
  vo : Vec wr gO [.int .i64 (R : Int), .int .i64 (C : Int), .slice p l.length cc]
  va : Vec wr gA [.int .i64 A.k, .bool A.n, .int .i64 A.d, .int .i64 A.x, sV A.t]
  vb : Vec wr gB [.int .i64 B.k, .bool B.n, .int .i64 B.d, .int .i64 B.x, sV B.t]
  ow : OwnW wr (gB + 1) (.slice p l.length cc) l
  ok : ∀ q ∈ l, okE q
  okA : okE A
  okB : okE B
  bl : base ≤ b ∧ b < a.heap.size ∧ a.heap.size < gO ∧ gO < gA ∧ gA < gB
theorem RepJ.step {a wr w' : World} {b base gO gA gB R C K K' : Nat} {A B : VT} {l : List VT} {p : Option Addr} {cc : Nat} (h : RepJ a b base gO gA gB R C K A B l p cc wr) (o : Only b wr w') (c : Cur w' b base K') : RepJ a b base gO gA gB R C K' A B l p cc w' := by
  have hb := h.bl
  exact ⟨h.only.trans o, c, o.vecC (by omega) h.vz, o.vecC (by omega) h.vo, o.vecC (by omega) h.va, o.vecC (by omega) h.vb, o.own h.ow (by omega), h.ok, h.okA, h.okB, h.bl⟩
theorem RepJ.grow {a wr w' : World} {b base gO gA gB R C K : Nat} {A B : VT} {l l' : List VT} {p p' : Option Addr} {cc cc' : Nat} (h : RepJ a b base gO gA gB R C K A B l p cc wr) (G : wr.grownBy w' (Value.slice p l.length cc).ownBlock) (O : OwnW w' (gB + 1) (.slice p' l'.length cc') l') (ok : ∀ q ∈ l', okE q) :
    RepJ a b base gO gA gB R C K A B l' p' cc' (w'.setCell ⟨gO, 2, none⟩ (.slice p' l'.length cc')) ∧ w'.cell? ⟨gO, 2, none⟩ = some (.slice p l.length cc) ∧ w'.frozen? ⟨gO, 2, none⟩ = false := by
  have hb := ownW_block h.ow
  have hl := h.bl
  have kv : ∀ {k : Nat} {L : List Value}, Vec wr k L → L ≠ [] → k < gB + 1 → Vec w' k L := fun {k L} V hL hk => by
    obtain ⟨y, m, rfl⟩ := List.exists_cons_of_ne_nil hL
    exact vec_same V (G.block k (World.block_lt_of_cell? _ _ (V 0 _ rfl).1) (fun q => by have := hb _ q.symm; omega))
  have vo := kv h.vo (by simp) (by omega)
  have cu := h.cur.grown G (fun r hr => by have := hb r hr; exact ⟨by omega, by omega⟩)
  have on := h.only.grown G (fun r hr => by have := hb r hr; omega)
  exact ⟨⟨on.setNew (by omega) _, cu.far (by omega) (by omega) _, (kv h.vz (by simp) (by omega)).far (p := ⟨gO, 2, none⟩) (by show gO ≠ _; omega) _, vo.put 2 (by simp) _, (kv h.va (by simp) (by omega)).far (p := ⟨gO, 2, none⟩) (by show gO ≠ _; omega) _, (kv h.vb (by simp) (by omega)).far (p := ⟨gO, 2, none⟩) (by show gO ≠ _; omega) _, ownW_far O (p := ⟨gO, 2, none⟩) (by show gO < _; omega) _, ok, h.okA, h.okB, h.bl⟩, (vo 2 _ rfl).1, (vo 2 _ rfl).2⟩

section
variable {P : Program} {ops : Array Oper} {Q : Exit → Act → World → Prop}

/-- What is listed has all listed that must come ahead of it. -/
def ClosedL (ops : Array Oper) (L : Nat → Bool) : Prop := ∀ i o, ops[i]? = some o → L i = true → ∀ e ∈ o.after, Region.binds .any e = true → L e.on = true
/-- A way back along edges. -/
def pathB (ops : Array Oper) : Nat → List Nat → Bool
  | _, [] => true
  | i, j :: l => (match ops[i]? with
    | none => false
    | some o => o.after.any fun e => Region.binds .any e && e.on == j) && pathB ops j l
theorem ClosedL.path {L : Nat → Bool} (h : ClosedL ops L) : ∀ (l : List Nat) (i : Nat), L i = true → pathB ops i l = true → L ((i :: l).getLast (by simp)) = true
  | [], _, hi, _ => hi
  | j :: l, i, hi, hp => by
    simp only [pathB, Bool.and_eq_true] at hp
    obtain ⟨h1, h2⟩ := hp
    have hj : L j = true := by
      cases ho : ops[i]? with
      | none => rw [ho] at h1; cases h1
      | some o =>
        rw [ho] at h1
        obtain ⟨e, he, hb⟩ := Array.any_eq_true'.1 h1
        simp only [Bool.and_eq_true, beq_iff_eq] at hb
        rw [← hb.2]
        exact h i o ho hi e he hb.1
    have := ClosedL.path h l j hj h2
    rwa [List.getLast_cons (by simp)]
/-- One that is not listed bars all that come behind it. -/
theorem ClosedL.bars {L : Nat → Bool} (h : ClosedL ops L) {i j : Nat} (l : List Nat) (hj : L j = false) (hp : pathB ops i l = true) (e : (i :: l).getLast (by simp) = j) : L i = false := by
  cases hi : L i with
  | false => rfl
  | true =>
    have := h.path l i hi hp
    rw [e, hj] at this
    cases this

/-- THE REGION. -/
theorem wp_region_letters_c {X : Type} {id : Nat} {a : Act} {w : World} (F : X → Act) (I : (Nat → Bool) → X → World → Prop) (hm : P.follows .mixedOrders = true) (hc : rhOk .any ops = true)
    (x0 : X) (h0 : a = F x0) (hI : I (fun _ => false) x0 { w with drawn := w.drawn + 1 })
    (step : ∀ L x w i o (K : Act → World → Prop), (∀ x' w', I (fun j => if j = i then true else L j) x' w' → K (F x') w') → ops[i]? = some o → L i = false → (∀ e ∈ o.after, Region.binds .any e = true → L e.on = true) → I L x w → ClosedL ops L →
      if Region.wanted o (yielded ops (F x).tmps) = true then wpList P #[{ o with guard := none }] (Exit.then K Q) [{ o with guard := none }] (F x) w else K ((F x).put o.dst undef) w)
    (fin : ∀ L x w, (∀ j, j < ops.size → L j = true) → I L x w → Q .normal (F x) w) : (Code.region id ops true).wp P Q a w := by
  refine wp_region_letters_g F (fun L x w => I L x w ∧ ClosedL ops L) hm hc x0 h0 ⟨hI, fun i o _ h => by cases h⟩ ?_ (fun L x w h hi => fin L x w h hi.1)
  intro L x w i o K hK ho hL haf hi
  refine step L x w i o K (fun x' w' h => hK x' w' ⟨h, ?_⟩) ho hL haf hi.1 hi.2
  intro j oj hj hLj e he hb
  show (if e.on = i then true else L e.on) = true
  split
  · rfl
  · by_cases hji : j = i
    · subst hji
      rw [ho] at hj
      cases hj
      exact haf e he hb
    · have : L j = true := by simpa [hji] using hLj
      exact hi.2 j oj hj this e he hb

end

theorem app_srcG {P : Program} (w : World) (base : Nat) (t tx ty e : TypeId) (i : TypeInfo) (z : Value) (ht : P.underlying t = some (.slice e)) (hi : P.info? e = some i) (hz : i.zero = some z)
    (sz : Nat) (hsize : i.size = sz) (hby : i.bytes ≤ 64) (hzs : z.cells.size = sz) (v : Value) (n : Nat) (xs : List Value) (hown : w.ownsRow base e sz v n xs) (x : Value) (m : Nat) (news : List Value) (hs : Src P sz tx x m news w)
    (hnm : n + m ≤ 1000000000) (hbase : base ≤ w.heap.size) :
    ∃ v' w', (Builtin.append_ #[t, tx] ty #[v, x]).run P w = .ok v' w' ∧ w'.ownsRow base e sz v' (n + m) (xs ++ news) ∧ w.grownBy w' v.ownBlock ∧ (v'.ownBlock = v.ownBlock ∨ v'.ownBlock = some w.heap.size) := by
  have hs' : Src P i.size tx x m news w := by rw [hsize]; exact hs
  have hml : n + m ≤ maxLen := by simp only [maxLen]; omega
  have hlen : (xs ++ news).length = (n + m) * sz := by rw [List.length_append, hown.1, hs.newsLen, Nat.add_mul]
  have grown : ∀ (old : Nat) (row : Option Nat),
      (w.drew.alloc (.cells ((xs ++ news).toArray ++ Builtin.zeroCells z.cells (grownCap w (n + m) old e - (n + m))) e)).ownsRow base e sz (.slice (some ⟨w.heap.size, 0, none⟩) (n + m) (grownCap w (n + m) old e)) (n + m) (xs ++ news) ∧
      w.grownBy (w.drew.alloc (.cells ((xs ++ news).toArray ++ Builtin.zeroCells z.cells (grownCap w (n + m) old e - (n + m))) e)) row := by
    intro old row
    have hge := grownCap_ge w (n + m) old e
    refine ⟨⟨hlen, .inr ⟨w.heap.size, _, _, rfl, hbase, heap_alloc_new w.drew _, hge, grownCap_le_maxLen w (n + m) old e hml, ?_, ?_⟩⟩, ⟨rfl, rfl, rfl, by simp, fun k hk _ => heap_alloc_old w.drew _ hk⟩⟩
    · rw [Array.size_append, List.size_toArray, size_zeroCells, hzs, hlen, ← Nat.add_mul]
      congr 1
      omega
    · rw [Array.toList_append, ← hlen]
      exact List.take_left
  rcases hown.2 with ⟨rfl, rfl⟩ | ⟨g, cap, cur, rfl, hbg, hg, hnc, hcm, hcs, htake⟩
  · have hx : xs = [] := List.eq_nil_of_length_eq_zero (by have := hown.1; rw [Nat.zero_mul] at this; exact this)
    subst hx
    by_cases hm : m = 0
    · subst hm
      have hn : news = [] := List.eq_nil_of_length_eq_zero (by have := hs.newsLen; rw [Nat.zero_mul] at this; exact this)
      subst hn
      exact ⟨_, _, run_append_nothing w t tx ty e i ht hi none 0 0 (Nat.le_refl _) x hs', World.ownsRow_nil w base e sz, ⟨rfl, rfl, rfl, Nat.le_refl _, fun _ _ _ => rfl⟩, Or.inl rfl⟩
    · have hr := run_append_grow_src (P := P) w t tx ty e i z ht hi hz none 0 0 [] (run_firstCells_none w.drew i.size 0 0 0) x m news hs' (by omega) (by omega) (growslice_fits (by omega) (by have := Nat.mul_le_mul hnm hby; omega))
      have hgr := grown 0 (Value.ownBlock (.slice none 0 0))
      exact ⟨_, _, hr, hgr.1, hgr.2, Or.inr rfl⟩
  · by_cases hroom : n + m ≤ cap
    · have hfit : n * i.size + news.length ≤ cur.size := by rw [hs'.newsLen, hcs, hsize, ← Nat.add_mul]; exact Nat.mul_le_mul_right _ hroom
      have hst := run_storeCells_at P g (n * i.size) e news 0 cur w hg (by simpa using hfit) hs.one
      simp only [Nat.add_zero] at hst
      have hr : (Builtin.append_ #[t, tx] ty #[.slice (some ⟨g, 0, none⟩) n cap, x]).run P w = .ok (.slice (some ⟨g, 0, none⟩) (n + m) cap) (w.setRow g (cur.toList.take (n * i.size) ++ news ++ cur.toList.drop (n * i.size + news.length)).toArray) := by
        rcases hs'.kind with ⟨e', hk⟩ | hk <;> simp [Builtin.append_, run_underlying ht, run_underlying hk, sizeOf, typeInfo, hi, hs'.len, hroom, hs'.cells, Addr.add_lit, hst]
      refine ⟨_, _, hr, ⟨hlen, .inr ⟨g, cap, _, rfl, hbg, setRow_heap w g cur _ e _ hg, hroom, hcm, ?_, ?_⟩⟩, ⟨rfl, rfl, rfl, by simp, fun k _ hk => setRow_other w g k _ (fun e => hk (by simp [Value.ownBlock, e]))⟩, Or.inl rfl⟩
      · simp only [List.size_toArray, List.length_append, List.length_take, List.length_drop, Array.length_toList]
        omega
      · rw [hsize, htake, ← hlen]
        exact List.take_left
    · have holds : ∀ j u, xs[j]? = some u → w.cell? ((⟨g, 0, none⟩ : Addr).add j) = some u := hown.cells (g := g) rfl
      have hr := run_append_grow_src (P := P) w t tx ty e i z ht hi hz (some ⟨g, 0, none⟩) n cap xs (run_firstCells_some (P := P) w.drew i.size n ⟨g, 0, none⟩ n cap xs (by rw [hsize]; exact hown.1) (by simpa using holds)) x m news hs' (by omega) (by omega) (growslice_fits (by omega) (by have := Nat.mul_le_mul hnm hby; omega))
      have hgr := grown cap (Value.ownBlock (.slice (some ⟨g, 0, none⟩) n cap))
      exact ⟨_, _, hr, hgr.1, hgr.2, Or.inr rfl⟩

theorem vals_src {w : World} {v : Value} {l : List VT} (h : ValsIn w v l) : Src Tryz.prog 5 23 v l.length (flatV l) w := by
  obtain ⟨p, cap, rfl, hcap, hi⟩ := h
  cases p with
  | none =>
    have h0 : l.length = 0 := by
      rcases Nat.eq_zero_or_pos l.length with h | h
      · exact h
      · obtain ⟨b, o, e, _⟩ := hi h; cases e
    have : l = [] := List.eq_nil_of_length_eq_zero h0
    subst this
    exact Src.ofNil _ Tryz.underlying23 cap
  | some a =>
    refine Src.ofSlice (size := 5) _ Tryz.underlying23 a l.length cap (flatV l) (flatV_length l) (fun j u hj => ?_) (fun u hu => ?_)
    · have hjl : j < (flatV l).length := (List.getElem?_eq_some_iff.1 hj).1
      rw [flatV_length] at hjl
      have hil : j / 5 < l.length := by omega
      obtain ⟨e, he⟩ : ∃ e, l[j / 5]? = some e := ⟨_, List.getElem?_eq_getElem hil⟩
      have hc := flatV_at he (j % 5) (by omega)
      rw [show j / 5 * 5 + j % 5 = j by omega, hj] at hc
      obtain ⟨b, o, e', hR⟩ := hi (by omega)
      cases e'
      have := hR (j / 5) e he (j % 5) u hc.symm
      rw [Addr.add_lit, show o + j = o + j / 5 * 5 + j % 5 by omega]
      exact this
    · obtain ⟨j, hj, rfl⟩ := List.getElem_of_mem hu
      rw [flatV_length] at hj
      obtain ⟨e, he⟩ : ∃ e, l[j / 5]? = some e := ⟨_, List.getElem?_eq_getElem (by omega)⟩
      have hc := flatV_at he (j % 5) (by omega)
      rw [show j / 5 * 5 + j % 5 = j by omega, List.getElem?_eq_getElem (by rw [flatV_length]; exact hj)] at hc
      have h5 : j % 5 < 5 := by omega
      generalize j % 5 = q at hc h5
      match q, h5, hc with
      | 0, _, hc => rw [Option.some.inj (show some _ = some _ from hc)]; rfl
      | 1, _, hc => rw [Option.some.inj (show some _ = some _ from hc)]; rfl
      | 2, _, hc => rw [Option.some.inj (show some _ = some _ from hc)]; rfl
      | 3, _, hc => rw [Option.some.inj (show some _ = some _ from hc)]; rfl
      | 4, _, hc => rw [Option.some.inj (show some _ = some _ from hc)]; rfl

end Go.Proofs.YtbomplppgobkdaaGreatDoor

