/-
  Several texts in one: J8, Qf, Qg.
-/
import Derived.Test.YtjlephnmofhjaaaDoorJ7
import Derived.BigQuiet
import Derived.Deep.QuietTactic
import Derived.Test.YtjlephnmofhjaaaDoorMg16
namespace Go.Proofs.YtjlephnmofhjaaaDoor
open Go.RowKit

/-- A joined table's cell. -/
def joinC (la lb : List VT) (ca cb rt : Nat) (ps : List (Nat × Nat)) (i j : Nat) : VT :=
 let q := ps.getD i (0, 0)
 if j < ca then cel la (q.1 * ca + j) else if j - ca < rt - 1 then cel lb (q.2 * cb + (j - ca)) else cel lb (q.2 * cb + (j - ca + 1))
set_option maxRecDepth 8000 in
set_option maxHeartbeats 4000000 in
theorem cellJ (la lb : List VT) (ra ca rb cb rt : Nat) (ps : List (Nat × Nat)) (g pc P A B T i j : Nat) (av bv : Value) (w : World)
  (VP : Vec w P [.slice (some ⟨g, 0, none⟩) ps.length pc]) (VA : Vec w A [.int .i64 ra, .int .i64 ca, av]) (VT' : Vec w T [.int .i64 rt]) (VB : Vec w B [.int .i64 rb, .int .i64 cb, bv])
  (HP : ∀ i q, ps[i]? = some q → w.cell? ⟨g, i * 2, none⟩ = some (numV q.1) ∧ w.cell? ⟨g, i * 2 + 1, none⟩ = some (numV q.2))
  (HA : ValsIn w av la) (HB : ValsIn w bv lb) (l1 : la.length = ra * ca) (l2 : lb.length = rb * cb) (l3 : la.length ≤ 2000) (l4 : lb.length ≤ 2000) (hi : i < ps.length) (hj : j < ca + cb - 1)
  (hps : ∀ q ∈ ps, q.1 < ra ∧ q.2 < rb) (h1 : 1 ≤ rt) (h2 : rt ≤ cb) (hca : ca ≤ 2000) (hcb : cb ≤ 2000) :
  Calls Tryd.prog 20 (#[.int .i64 (i : Int), .int .i64 (j : Int)] ++ #[.pointer (some ⟨P, 0, none⟩), .pointer (some ⟨A, 0, none⟩), .pointer (some ⟨T, 0, none⟩), .pointer (some ⟨B, 0, none⟩)]) w fun z w' => z = .returned (joinC la lb ca cb rt ps i j).val ∧ Ext w w' := by
 obtain ⟨⟨x, y⟩, hq⟩ : ∃ q, ps[i]? = some q := ⟨_, List.getElem?_eq_getElem hi⟩
 have hqd : ps.getD i (0, 0) = (x, y) := by rw [List.getD_eq_getElem?_getD, hq]; rfl
 obtain ⟨hx, hy⟩ := hps _ (List.mem_of_getElem? hq)
 simp only at hx hy
 obtain ⟨c1, c2⟩ := HP i _ hq
 simp only at c1 c2
 obtain ⟨V, hV⟩ : ∃ V, joinC la lb ca cb rt ps i j = V := ⟨_, rfl⟩
 have HV : Hid ((if j < ca then cel la (x * ca + j) else if j - ca < rt - 1 then cel lb (y * cb + (j - ca)) else cel lb (y * cb + (j - ca + 1))) = V) := by
  show _ = _
  rw [← hV]
  unfold joinC
  rw [hqd]
 rw [hV]
 obtain ⟨NP, hNP⟩ : ∃ n, ps.length = n := ⟨_, rfl⟩
 rw [hNP] at VP hi
 have i2 : (i : Int) < (NP : Int) := by omega
 have X1 := x1 w (.cells #[.int .i64 0, .bool false, .int .i64 0, .int .i64 0, sV []] 39)
 have Z := vec_made w (valL 0 false 0 0 []) 39
 change Vec (w.alloc (.cells #[.int .i64 0, .bool false, .int .i64 0, .int .i64 0, sV []] 39)) _ _ at Z
 obtain ⟨u1, hu1⟩ : ∃ u, w.alloc (.cells #[.int .i64 0, .bool false, .int .i64 0, .int .i64 0, sV []] 39) = u := ⟨_, rfl⟩
 rw [hu1] at X1 Z
 have p0 := ((VP.later X1) 0 _ rfl).1
 obtain ⟨a0, a1, a2⟩ := Vec.three (VA.later X1)
 obtain ⟨b0, b1, b2⟩ := Vec.three (VB.later X1)
 have t0 := ((VT'.later X1) 0 _ rfl).1
 have d1 : u1.cell? ⟨g, i * 2, none⟩ = some (.int .i64 (x : Int)) := cell_later X1 c1
 have d2 : u1.cell? ⟨g, i * 2 + 1, none⟩ = some (.int .i64 (y : Int)) := cell_later X1 c2
 have ATA : Hid (∀ W, Ext w W → j < ca → Calls Tryd.prog 21 #[grV ra ca av, .int .i64 x, .int .i64 j] W fun e w' => e = .returned (cel la (x * ca + j)).val ∧ Ext W w') := fun W hW hjc => atI ra ca av la x j W (HA.later hW) l3 (by rw [l1]; exact place_lt hx hjc)
 have ATB : Hid (∀ W o, Ext w W → o < cb → Calls Tryd.prog 21 #[grV rb cb bv, .int .i64 y, .int .i64 (o : Nat)] W fun e w' => e = .returned (cel lb (y * cb + o)).val ∧ Ext W w') := fun W o hW ho => atI rb cb bv lb y o W (HB.later hW) l4 (by rw [l2]; exact place_lt hy ho)
 clear VP VA VT' VB HP HA HB hps hq hqd c1 c2 hV hNP
 go_enter Tryd.func20, Tryd.ntmps20
 go_wp2_with fail
 go_quiet (fail)
 have Z := Z.later (xdNv (xr u1) nq)
 have X1 := xdNv X1 nq
 obtain ⟨u2, hu2⟩ : ∃ u, u1.drewN nq = u := ⟨_, rfl⟩
 have a0 : (u1.drewN nq).cell? ⟨A, 0, none⟩ = some (.int .i64 ra) := a0
 have a1 : (u1.drewN nq).cell? ⟨A, 1, none⟩ = some (.int .i64 ca) := a1
 have a2 : (u1.drewN nq).cell? ⟨A, 2, none⟩ = some av := a2
 have b0 : (u1.drewN nq).cell? ⟨B, 0, none⟩ = some (.int .i64 rb) := b0
 have b1 : (u1.drewN nq).cell? ⟨B, 1, none⟩ = some (.int .i64 cb) := b1
 have b2 : (u1.drewN nq).cell? ⟨B, 2, none⟩ = some bv := b2
 have t0 : (u1.drewN nq).cell? ⟨T, 0, none⟩ = some (.int .i64 rt) := t0
 rw [hu2] at Z X1 a0 a1 a2 b0 b1 b2 t0 ⊢
 clear hu2 hu1 p0 d1 d2
 by_cases hjc : j < ca
 ·
  have e0 : decide ((j : Int) - (ca : Int) < 0) = true := decide_eq_true (by omega)
  go_wp2_with fail
  clear a0 a1 a2 b0 b1 b2 t0
  refine (ATA.out u2 X1 hjc).mono ?_
  rintro q w1 ⟨rfl, e1⟩
  have Z1 := Z.later e1
  have XX := xt X1 e1
  obtain ⟨⟨vk, vn, vd, vx, vt⟩, hv⟩ : ∃ e, cel la (x * ca + j) = e := ⟨_, rfl⟩
  have HVE : Hid (⟨vk, vn, vd, vx, vt⟩ = V) := by show _ = _; rw [← hv, ← HV.out, if_pos hjc]
  rw [hv]
  obtain ⟨wy, hy, FX, ⟨b0, b1, b2, b3, b4⟩, ⟨fb0, fb1, fb2, fb3, fb4⟩, fd0, fd1, fd2, fd3, fd4⟩ := fin5 Z1 XX (Nat.le_refl _) vk vn vd vx vt
  clear Z Z1 hv
  go_wp2_with fail
  exact bodyPost_ret (v := valV vk vn vd vx vt) (by simp [results, Tryd.results20, go_sem, fd0, fd1, fd2, fd3, fd4]) rfl ⟨by rw [← HVE.out], FX⟩
 ·
  obtain ⟨o, ho⟩ : ∃ o, j - ca = o := ⟨_, rfl⟩
  have ho' : (j : Int) - (ca : Int) = (o : Int) := by omega
  have hoc : o < cb - 1 := by omega
  have e0 : decide ((o : Int) < 0) = false := decide_eq_false (by omega)
  rw [ho] at HV
  by_cases hor : o < rt - 1
  ·
   have e1 : decide ((o : Int) < (rt : Int) - 1) = true := decide_eq_true (by omega)
   clear ho
   go_wp2_with fail
   clear a0 a1 a2 b0 b1 b2 t0
   refine (ATB.out u2 o X1 (by omega)).mono ?_
   rintro q w1 ⟨rfl, e1⟩
   have Z1 := Z.later e1
   have XX := xt X1 e1
   obtain ⟨⟨vk, vn, vd, vx, vt⟩, hv⟩ : ∃ e, cel lb (y * cb + o) = e := ⟨_, rfl⟩
   have HVE : Hid (⟨vk, vn, vd, vx, vt⟩ = V) := by show _ = _; rw [← hv, ← HV.out, if_neg hjc, if_pos hor]
   rw [hv]
   obtain ⟨wy, hy, FX, ⟨b0, b1, b2, b3, b4⟩, ⟨fb0, fb1, fb2, fb3, fb4⟩, fd0, fd1, fd2, fd3, fd4⟩ := fin5 Z1 XX (Nat.le_refl _) vk vn vd vx vt
   clear Z Z1 hv
   go_wp2_with fail
   exact bodyPost_ret (v := valV vk vn vd vx vt) (by simp [results, Tryd.results20, go_sem, fd0, fd1, fd2, fd3, fd4]) rfl ⟨by rw [← HVE.out], FX⟩
  ·
   have e1 : decide ((o : Int) < (rt : Int) - 1) = false := decide_eq_false (by omega)
   obtain ⟨o1, ho1⟩ : ∃ o1, o + 1 = o1 := ⟨_, rfl⟩
   have ho2 : (o : Int) + 1 = (o1 : Int) := by omega
   rw [ho1] at HV
   have hoc1 : o1 < cb := by omega
   clear ho ho1
   go_wp2_with fail
   clear a0 a1 a2 b0 b1 b2 t0
   refine (ATB.out u2 o1 X1 hoc1).mono ?_
   rintro q w1 ⟨rfl, e1⟩
   have Z1 := Z.later e1
   have XX := xt X1 e1
   obtain ⟨⟨vk, vn, vd, vx, vt⟩, hv⟩ : ∃ e, cel lb (y * cb + o1) = e := ⟨_, rfl⟩
   have HVE : Hid (⟨vk, vn, vd, vx, vt⟩ = V) := by show _ = _; rw [← hv, ← HV.out, if_neg hjc, if_neg hor]
   rw [hv]
   obtain ⟨wy, hy, FX, ⟨b0, b1, b2, b3, b4⟩, ⟨fb0, fb1, fb2, fb3, fb4⟩, fd0, fd1, fd2, fd3, fd4⟩ := fin5 Z1 XX (Nat.le_refl _) vk vn vd vx vt
   clear Z Z1 hv
   go_wp2_with fail
   exact bodyPost_ret (v := valV vk vn vd vx vt) (by simp [results, Tryd.results20, go_sem, fd0, fd1, fd2, fd3, fd4]) rfl ⟨by rw [← HVE.out], FX⟩

/-- What a function value says of a column's rows. -/
structure Takes (w : World) (fi : Nat) (li : Array Value) (L : List VT) (q : Nat → Bool) : Prop where
 ent : ∀ args w, (callFunc fi args).run Tryd.prog w = .ok (.enter fi args) w
 says : ∀ W sv i, Ext w W → ValsIn W sv L → i < L.length → Calls Tryd.prog fi (#[sv, numV i] ++ li) W fun e w' => e = .returned (.bool (q i)) ∧ Ext W w'

theorem good_dims {r c : Int} {l : List VT} (h : goodG r c l = true) : ∃ R C : Nat, r = R ∧ c = C ∧ l.length = R * C ∧ R * C ≤ 2000 ∧ 1 ≤ R ∧ 1 ≤ C ∧ R ≤ 2000 ∧ C ≤ 2000 := by
 have hg := goodG_all h
 have hs : 1 ≤ r ∧ 1 ≤ c ∧ r * c ≤ 2000 ∧ (l.length : Int) = r * c := of_decide_eq_true hg.1
 obtain ⟨R, rfl⟩ := Int.eq_ofNat_of_zero_le (show 0 ≤ r by omega)
 obtain ⟨C, rfl⟩ := Int.eq_ofNat_of_zero_le (show 0 ≤ c by omega)
 have e : ((R * C : Nat) : Int) = (R : Int) * (C : Int) := by simp
 refine ⟨R, C, rfl, rfl, ?_, ?_, ?_, ?_, ?_, ?_⟩ <;> omega

end Go.Proofs.YtjlephnmofhjaaaDoor

