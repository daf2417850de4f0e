/-
  Several texts in one: E11, E12, Qs, E13, E30.
-/
import Derived.Test.YtbomplppgobkdaaGreatDoorMg40
import Derived.Test.YtbomplppgobkdaaGreatDoorMg33
import Derived.Test.YtbomplppgobkdaaGreatDoorMg34
import Derived.Deep.RegionHeld3
import Derived.Test.YtbomplppgobkdaaGreatDoorMg38
import Derived.Test.YtbomplppgobkdaaGreatDoorMg45
import Derived.Test.YtbomplppgobkdaaGreatDoorMg44
namespace Go.Proofs.YtbomplppgobkdaaGreatDoor
open Go.RowKit

set_option maxRecDepth 8000 in
set_option maxHeartbeats 2000000 in
theorem keysS (r c : Nat) (v u : Value) (l : List VT) (cl : List Int) (row : Nat) (w : World) (h : ValsIn w v l) (hl : l.length = r * c) (h2 : l.length ≤ 2000) (hr : row < r) (hu : IntsIn w u cl) (hc6 : cl.length ≤ 6) (hcl : ∀ k, k < cl.length → 1 ≤ cl.getD k 0 ∧ cl.getD k 0 ≤ c) (hc : c ≤ 2000) :
    Calls Tryz.prog 62 #[grV r c v, .int .i64 row, u] w fun e w' => ∃ sv, e = .returned sv ∧ OwnW w' w.heap.size sv (keyG l c (colN cl) row) ∧ Ext w w' := by
  have HP : Hid (∀ y, y < c → row * c + y < l.length) := fun y hy => by rw [hl]; exact place_lt hr hy
  obtain ⟨pv, capv, rfl, hcapv, hrow⟩ := h
  have HV : Hid (0 < l.length → ∃ b o, pv = some ⟨b, o, none⟩ ∧ RowV w b o l) := hrow
  obtain ⟨N, hN⟩ : ∃ N, l.length = N := ⟨_, rfl⟩
  have HNN : Hid (l.length = N) := hN
  rw [hN] at hcapv h2 HV HP ⊢
  obtain ⟨m, hm⟩ : ∃ m, row * c = m := ⟨_, rfl⟩
  have HM0 : Hid (row * c = m) := hm
  have hm' : (row : Int) * (c : Int) = (m : Int) := by rw [← hm]; simp
  rw [hm] at HP
  obtain ⟨p0, cap, rfl, hcap, hi⟩ := hu
  obtain ⟨n, hn⟩ : ∃ n, cl.length = n := ⟨_, rfl⟩
  have HN : Hid (cl.length = n) := hn
  have HC : Hid (∀ k, k < cl.length → 1 ≤ cl.getD k 0 ∧ cl.getD k 0 ≤ c) := hcl
  rw [hn] at hcap hi hc6 ⊢
  have HI : Hid (0 < n → ∃ b o, p0 = some ⟨b, o, none⟩ ∧ ∀ i, i < n → w.cell? ⟨b, o + i, none⟩ = some (.int .i64 (cl.getD i 0))) := hi
  have X0 := x1 w (.cells #[.int .i64 r, .int .i64 c, .slice pv N capv] 25)
  have B0 := vec_made w [.int .i64 r, .int .i64 c, .slice pv N capv] 25
  have S0 : (w.alloc (.cells #[.int .i64 r, .int .i64 c, .slice pv N capv] 25)).heap.size = w.heap.size + 1 := by rw [World.size_alloc]
  obtain ⟨u0, hu0⟩ : ∃ u, w.alloc (.cells #[.int .i64 r, .int .i64 c, .slice pv N capv] 25) = u := ⟨_, rfl⟩
  change Vec (w.alloc (.cells #[.int .i64 r, .int .i64 c, .slice pv N capv] 25)) _ _ at B0
  rw [hu0] at X0 B0 S0
  clear hl hi hcl hn hrow hN hm
  go_enter Tryz.func62, Tryz.ntmps62
  go_wp2_with fail
  go_loopw [7, 12] (fun s i wr => ∃ (k m cc : Nat) (p : Option Addr), k ≤ n ∧ i = .int .i64 k ∧ s = .slice p m cc ∧ Hid (OwnW wr (w.heap.size + 1) (.slice p m cc) (keyT l c cl row k) ∧ Ext u0 wr)) (fun _ i _ => n - (intOf i).toNat)
  case atStart => exact ⟨0, 0, 0, none, by omega, rfl, rfl, World.ownsRow_nil _ _ _ _, xr _⟩
  case round =>
    obtain ⟨k, m1, cc, p, hk, rfl, rfl, HO⟩ := hrel
    by_cases hlt : k < n
    · have i2 : (k : Int) < (n : Int) := by omega
      have kc : (k : Int) ≤ (cap : Int) := by omega
      obtain ⟨b, o, e, hcc⟩ := HI.out (by omega)
      have c1 := cell_later (xt X0 HO.out.2) (hcc k hlt)
      subst e
      have hkk := HC.out k (by rw [HN.out]; exact hlt)
      obtain ⟨y, hy⟩ : ∃ y : Nat, cl.getD k 0 = (y : Int) + 1 := ⟨(cl.getD k 0 - 1).toNat, by omega⟩
      have HY : Hid (cl.getD k 0 = (y : Int) + 1) := hy
      rw [hy] at c1 hkk
      have hq1 := HP.out y (by omega)
      obtain ⟨b', o', e', RW⟩ := HV.out (by omega)
      subst e'
      obtain ⟨q, hq⟩ : ∃ q, m + y = q := ⟨_, rfl⟩
      obtain ⟨z, hz⟩ : ∃ z : Nat, (y : Int) + 1 = (z : Int) := ⟨y + 1, by omega⟩
      obtain ⟨s, hs⟩ : ∃ s : Nat, (m : Int) + (z : Int) = (s : Int) := ⟨m + z, by omega⟩
      have hs1 : (s : Int) - 1 = (q : Int) := by omega
      have s2 : (s : Int) ≤ 2001 := by omega
      have q1 : (q : Int) < (N : Int) := by omega
      have m0 : (m : Int) ≤ 2000 := by omega
      have z0 : (z : Int) ≤ 2000 := by omega
      rw [hz] at c1
      obtain ⟨⟨ek, en, ed, ex, et⟩, he⟩ : ∃ e, l[q]? = some e := ⟨_, List.getElem?_eq_getElem (by rw [HNN.out]; omega)⟩
      obtain ⟨d0, d1, d2, d3, d4⟩ := (RW.later (xt X0 HO.out.2)).five he
      simp only at d0 d1 d2 d3 d4
      have HE : Hid (cel l (row * c + y) = ⟨ek, en, ed, ex, et⟩) := by
        show _ = _
        rw [HM0.out, hq]
        unfold cel
        rw [List.getD_eq_getElem?_getD, he]
        rfl
      have OQ : Hid (OwnW wr (w.heap.size + 1) (.slice p m1 cc) (keyT l c cl row k)) := HO.out.1
      have Y1 := HO.out.2
      obtain ⟨a0, a1, a2⟩ := Vec.three (B0.later HO.out.2)
      obtain ⟨inf, hi, hzz, hz1, hz2⟩ := infoW
      have lk := keyT_length l c cl row (k := k) (by rw [HN.out]; exact hk)
      have hss : w.heap.size + 1 ≤ wr.heap.size := by have := Y1.size; omega
      clear he hy hcc HO RW hq1 hkk hq hz
      go_wp2_with (at_builtin; refine wpList_append_own _ rfl _ _ 23 rfl (w.heap.size + 1) 50 inf (valV 0 false 0 0 []) 5 48 Tryz.underlying23 hi hzz hz1 hz2 rfl (by decide) _ _ _ rfl (OQ.out.alloc _) ⟨wr.heap.size, 0, none⟩ 1 1 [.int .i64 ek, .bool en, .int .i64 ed, .int .i64 ex, sV et] rfl rfl (World.news_of_block (heap_alloc_new _ _)) (by simp [Value.oneCell']) (by simp only [maxLen, lk]; omega) (by rw [lk]; omega) (by simp; omega) ?_)
      intro v7 wC ownC gC _
      have lb := ownW_block OQ.out
      have Y5 : Ext u0 wC := (xa Y1 _).grown gC (xa Y1 _).size (fun r hr => by have := lb r hr; omega)
      have OC : OwnW wC (w.heap.size + 1) v7 (keyT l c cl row (k + 1)) := by
        rw [keyT_succ l c cl row (by rw [HN.out]; exact hlt) HY.out, HE.out]
        show World.ownsRow _ _ _ _ _ _ _
        rw [flatV_append, List.length_append, lk]
        exact ownC
      obtain ⟨p7, n7, c7, rfl⟩ := ownW_slice OC
      have HM : Hid (OwnW wC (w.heap.size + 1) (.slice p7 n7 c7) (keyT l c cl row (k + 1)) ∧ Ext u0 wC) := ⟨OC, Y5⟩
      clear ownC gC lb OQ Y1 hi hzz hz1 hz2 Y5 OC
      go_wp2_with fail
      go_roundw
      case rel => exact ⟨k + 1, n7, c7, p7, by omega, by go_num, rfl, HM⟩
      case measure => simp [intOf]; omega
    · obtain rfl : k = n := by omega
      have i2 : ¬ (k : Int) < (k : Int) := by omega
      have HF : Hid (OwnW wr w.heap.size (.slice p m1 cc) (keyG l c (colN cl) row)) := by
        have := ownW_base HO.out.1 (Nat.le_succ w.heap.size)
        rw [← HN.out, keyT_all] at this
        exact this
      go_wp2_with fail
      go_ret
      exact ⟨_, rfl, HF.out, xt X0 HO.out.2⟩

theorem nrmL_same {la lb : List VT} (hn : la.length = lb.length) (ga : ∀ e ∈ la, e.good = true) (gb : ∀ e ∈ lb, e.good = true) (h : ∀ (j : Nat) (a b : VT), la[j]? = some a → lb[j]? = some b → likeB a b = true) : la.map nrm = lb.map nrm := by
  apply List.ext_getElem?
  intro i
  rw [List.getElem?_map, List.getElem?_map]
  by_cases hi : i < la.length
  · have e1 := List.getElem?_eq_getElem hi
    have e2 := List.getElem?_eq_getElem (show i < lb.length by omega)
    rw [e1, e2]
    simp only [Option.map_some]
    exact congrArg some ((like_nrm (ga _ (List.mem_of_getElem? e1)) (gb _ (List.mem_of_getElem? e2))).1 (h i _ _ e1 e2))
  · rw [List.getElem?_eq_none (by omega), List.getElem?_eq_none (by omega)]
theorem nrmL_other {la lb : List VT} (ga : ∀ e ∈ la, e.good = true) (gb : ∀ e ∈ lb, e.good = true) {j : Nat} {a b : VT} (h1 : la[j]? = some a) (h2 : lb[j]? = some b) (h : likeB a b = false) : la.map nrm ≠ lb.map nrm := fun e => by
  have e1 : (la.map nrm)[j]? = (lb.map nrm)[j]? := by rw [e]
  rw [List.getElem?_map, List.getElem?_map, h1, h2] at e1
  simp only [Option.map_some, Option.some.injEq] at e1
  rw [(like_nrm (ga _ (List.mem_of_getElem? h1)) (gb _ (List.mem_of_getElem? h2))).2 e1] at h
  cases h
set_option maxRecDepth 8000 in
set_option maxHeartbeats 4000000 in
theorem sameGS (va vb : Value) (la lb : List VT) (w : World) (ha : ValsIn w va la) (hb : ValsIn w vb lb) (ga : ∀ e ∈ la, e.good = true ∧ e.t.length ≤ 2000000) (gb : ∀ e ∈ lb, e.good = true ∧ e.t.length ≤ 2000000) (l1 : la.length ≤ 2000) (hl : la.length = lb.length) :
    Calls Tryz.prog 63 #[va, vb] w fun e w' => e = .returned (.bool (decide (la.map nrm = lb.map nrm))) ∧ Ext w w' := by
  have CR : Hid (∀ a b W, a ∈ la → b ∈ lb → Calls Tryz.prog 19 #[a.val, b.val] W fun e w' => e = .returned (.bool (likeB a b)) ∧ Ext W w') := fun a b W h1 h2 => sameS a b W (ga a h1).2 (gb b h2).2 (ga a h1).1 (gb b h2).1
  have HG : Hid ((∀ e ∈ la, e.good = true) ∧ (∀ e ∈ lb, e.good = true) ∧ la.length = lb.length) := ⟨fun e h => (ga e h).1, fun e h => (gb e h).1, hl⟩
  obtain ⟨pa, ca, rfl, hca, hra⟩ := ha
  obtain ⟨pb, cb, rfl, hcb, hrb⟩ := hb
  have HA : Hid (0 < la.length → ∃ b o, pa = some ⟨b, o, none⟩ ∧ RowV w b o la) := hra
  have HB : Hid (0 < lb.length → ∃ b o, pb = some ⟨b, o, none⟩ ∧ RowV w b o lb) := hrb
  obtain ⟨n, hn⟩ : ∃ n, la.length = n := ⟨_, rfl⟩
  have HN : Hid (la.length = n ∧ lb.length = n) := ⟨hn, by rw [← hl]; exact hn⟩
  rw [← hl] at hcb HB ⊢
  rw [hn] at hca hcb l1 HA HB ⊢
  obtain ⟨Q, hQ⟩ : ∃ Q, decide (la.map nrm = lb.map nrm) = Q := ⟨_, rfl⟩
  have HQ : Hid (decide (la.map nrm = lb.map nrm) = Q) := hQ
  rw [hQ]
  clear hra hrb hn hQ ga gb hl
  go_enter Tryz.func63, Tryz.ntmps63
  go_wp2_with fail
  go_loopw [8] (fun i wr => ∃ k : Nat, k ≤ n ∧ i = .int .i64 k ∧ Hid (Ext w wr ∧ ∀ j a b, j < k → la[j]? = some a → lb[j]? = some b → likeB a b = true)) (fun i _ => n - (intOf i).toNat)
  case atStart => exact ⟨0, by omega, rfl, xr _, fun j a b hj => absurd hj (by omega)⟩
  case round =>
    obtain ⟨k, hk, rfl, HO⟩ := hrel
    by_cases hlt : k < n
    · have i2 : (k : Int) < (n : Int) := by omega
      obtain ⟨⟨k1, n1, d1, x1, t1⟩, hx⟩ : ∃ x, la[k]? = some x := ⟨_, List.getElem?_eq_getElem (by rw [HN.out.1]; exact hlt)⟩
      obtain ⟨⟨k2, n2, d2, x2, t2⟩, hy⟩ : ∃ x, lb[k]? = some x := ⟨_, List.getElem?_eq_getElem (by rw [HN.out.2]; exact hlt)⟩
      obtain ⟨b, o, rfl, RW⟩ := HA.out (by omega)
      obtain ⟨b', o', rfl, RW'⟩ := HB.out (by omega)
      obtain ⟨c0, c1, c2, c3, c4⟩ := (RW.later HO.out.1).five hx
      obtain ⟨e0, e1, e2, e3, e4⟩ := (RW'.later HO.out.1).five hy
      simp only at c0 c1 c2 c3 c4 e0 e1 e2 e3 e4
      have CL : Hid (∀ W, Calls Tryz.prog 19 #[valV k1 n1 d1 x1 t1, valV k2 n2 d2 x2 t2] W fun e w' => e = .returned (.bool (likeB ⟨k1, n1, d1, x1, t1⟩ ⟨k2, n2, d2, x2, t2⟩)) ∧ Ext W w') := fun W => CR.out _ _ W (List.mem_of_getElem? hx) (List.mem_of_getElem? hy)
      have HX : Hid (la[k]? = some ⟨k1, n1, d1, x1, t1⟩ ∧ lb[k]? = some ⟨k2, n2, d2, x2, t2⟩) := ⟨hx, hy⟩
      obtain ⟨LK, hLK⟩ : ∃ LK, likeB ⟨k1, n1, d1, x1, t1⟩ ⟨k2, n2, d2, x2, t2⟩ = LK := ⟨_, rfl⟩
      have HLK : Hid (likeB ⟨k1, n1, d1, x1, t1⟩ ⟨k2, n2, d2, x2, t2⟩ = LK) := hLK
      rw [hLK] at CL
      have kc1 : (k : Int) ≤ (ca : Int) := by omega
      clear hx hy RW RW' hLK
      go_wp2_with fail
      go_region_held3 (fun w' => w'.cell? ⟨b, o + k * 5, none⟩ = some (.int .i64 k1) ∧ w'.cell? ⟨b, o + k * 5 + 1, none⟩ = some (.bool n1) ∧ w'.cell? ⟨b, o + k * 5 + 2, none⟩ = some (.int .i64 d1) ∧ w'.cell? ⟨b, o + k * 5 + 3, none⟩ = some (.int .i64 x1) ∧ w'.cell? ⟨b, o + k * 5 + 4, none⟩ = some (sV t1) ∧ w'.cell? ⟨b', o' + k * 5, none⟩ = some (.int .i64 k2) ∧ w'.cell? ⟨b', o' + k * 5 + 1, none⟩ = some (.bool n2) ∧ w'.cell? ⟨b', o' + k * 5 + 2, none⟩ = some (.int .i64 d2) ∧ w'.cell? ⟨b', o' + k * 5 + 3, none⟩ = some (.int .i64 x2) ∧ w'.cell? ⟨b', o' + k * 5 + 4, none⟩ = some (sV t2)) (go_keep)
        (first
          | (go_at_call 19; refine (CL.out _).mono ?_; rintro e w' ⟨rfl, E⟩; have Y := xt (xd (xr _)) E; have rc0 := cell_later Y c0; have rc1 := cell_later Y c1; have rc2 := cell_later Y c2; have rc3 := cell_later Y c3; have rc4 := cell_later Y c4; have rd0 := cell_later Y e0; have rd1 := cell_later Y e1; have rd2 := cell_later Y e2; have rd3 := cell_later Y e3; have rd4 := cell_later Y e4))
      have Y1 := xt HO.out.1 Y
      cases LK
      · have HF : Hid (false = Q) := by
          show _ = _
          rw [← HQ.out]
          exact (decide_eq_false (nrmL_other HG.out.1 HG.out.2.1 HX.out.1 HX.out.2 HLK.out)).symm
        clear CL
        go_wp2_with fail
        go_ret
        exact ⟨ret_bool HF.out, Y1⟩
      · have HM : Hid (Ext w w' ∧ ∀ j a b, j < k + 1 → la[j]? = some a → lb[j]? = some b → likeB a b = true) := ⟨Y1, fun j a b hj h1 h2 => by
          by_cases e : j = k
          · subst e
            rw [HX.out.1] at h1
            rw [HX.out.2] at h2
            cases h1
            cases h2
            exact HLK.out
          · exact HO.out.2 j a b (by omega) h1 h2⟩
        clear CL
        go_wp2_with fail
        go_roundw
        case rel => exact ⟨k + 1, by omega, by go_num, HM⟩
        case measure => simp [intOf]; omega
    · obtain rfl : k = n := by omega
      have i2 : ¬ (k : Int) < (k : Int) := by omega
      have HF : Hid (true = Q) := by
        show _ = _
        rw [← HQ.out]
        exact (decide_eq_true (nrmL_same HG.out.2.2 HG.out.1 HG.out.2.1 (fun j a b h1 h2 => HO.out.2 j a b (by have := (List.getElem?_eq_some_iff.1 h1).1; rw [HN.out.1] at this; exact this) h1 h2))).symm
      go_wp2_with fail
      go_ret
      exact ⟨ret_bool HF.out, HO.out.1⟩

set_option maxHeartbeats 1000000 in
theorem lateS (e : VT) (w : World) : Calls Tryz.prog 127 #[e.val] w fun z w' => z = .returned (.int .i64 (lateV e)) ∧ Ext w w' := by
  obtain ⟨k, n, d, x, t⟩ := e
  have X0 := x1 w (.cells #[.int .i64 k, .bool n, .int .i64 d, .int .i64 x, sV t] 50)
  by_cases h0 : k = 0
  · subst h0
    have e : lateV ⟨0, n, d, x, t⟩ = 1 := rfl
    rw [e]
    go_enter Tryz.func127, Tryz.ntmps127
    go_wp2_with fail
    go_ret
    exact ⟨rfl, X0⟩
  · have h0b : (k == 0) = false := by simpa using h0
    by_cases h4 : k = 4
    · subst h4
      have e : lateV ⟨4, n, d, x, t⟩ = 2 := rfl
      rw [e]
      go_enter Tryz.func127, Tryz.ntmps127
      go_wp2_with fail
      go_ret
      exact ⟨rfl, X0⟩
    · have h4b : (k == 4) = false := by simpa using h4
      have e : lateV ⟨k, n, d, x, t⟩ = 0 := by unfold lateV; rw [if_neg h0, if_neg h4]
      rw [e]
      go_enter Tryz.func127, Tryz.ntmps127
      go_wp2_with fail
      go_ret
      exact ⟨rfl, X0⟩
theorem cmpI_lt0 (a b : Int) : cmpI a b < 0 ↔ a < b := by unfold cmpI; split <;> (try split) <;> constructor <;> intro <;> omega
set_option maxRecDepth 8000 in
set_option maxHeartbeats 4000000 in
theorem aheadS (a b : VT) (s : Int) (hs : s = 1 ∨ s = -1) (w : World) (ha : a.room) (hb : b.room) (ga : a.good = true) (gb : b.good = true) :
    Calls Tryz.prog 103 #[a.val, b.val, .int .i64 s] w fun e w' => e = .returned (.bool (decide (standB a b s < 0))) ∧ Ext w w' := by
  have CA := fun W => lateS a W
  have CB := fun W => lateS b W
  have CC : lateV a = 0 → lateV b = 0 → Hid (∀ W, Calls Tryz.prog 48 #[a.val, b.val] W fun e w' => e = .returned (.int .i64 (cmpQ a b)) ∧ Ext W w') := fun h1 h2 W => by
    have k1 := late_good ga h1
    have k2 := late_good gb h2
    exact cmpSQ a b W ha.1 hb.1 ga gb (by omega) (by omega)
  have bd := cmpQ_bd a b
  have la := late_bd a
  have lb := late_bd b
  have HS : Hid (standB a b s = if lateV a ≠ lateV b ∨ lateV a ≠ 0 then cmpI (lateV a) (lateV b) else cmpQ a b * s) := rfl
  obtain ⟨k, n, d, x, t⟩ := a
  obtain ⟨k', n', d', x', t'⟩ := b
  obtain ⟨A, hA⟩ : ∃ A, lateV ⟨k, n, d, x, t⟩ = A := ⟨_, rfl⟩
  obtain ⟨B, hB⟩ : ∃ B, lateV ⟨k', n', d', x', t'⟩ = B := ⟨_, rfl⟩
  obtain ⟨R, hR⟩ : ∃ R, cmpQ ⟨k, n, d, x, t⟩ ⟨k', n', d', x', t'⟩ = R := ⟨_, rfl⟩
  obtain ⟨Q, hQ⟩ : ∃ Q, standB ⟨k, n, d, x, t⟩ ⟨k', n', d', x', t'⟩ s = Q := ⟨_, rfl⟩
  rw [hA] at CA HS la CC
  rw [hB] at CB HS lb CC
  rw [hR] at CC HS bd
  rw [hQ] at HS ⊢
  obtain ⟨u0, u1, h0, h1, s0', s1', B0, B1, X⟩ := mkB2 w (valL k n d x t) (valL k' n' d' x' t') 50 50
  obtain ⟨a0, a1, a2, a3, a4⟩ := Vec.five B0
  obtain ⟨a5, a6, a7, a8, a9⟩ := Vec.five B1
  clear hA hB hR hQ ha hb ga gb
  by_cases hL : A = 0 ∧ B = 0
  · obtain ⟨rfl, rfl⟩ := hL
    have HF : Hid (decide (R * s < 0) = decide (Q < 0)) := by show _ = _; rw [HS.out, if_neg (by omega)]
    have C0 := CC rfl rfl
    have hw9 : IntKind.i64.wrap (R * s) = R * s := by rcases hs with rfl | rfl <;> rw [IntKind.wrap_i64] <;> omega
    obtain ⟨Z, hZ⟩ : ∃ Z, R * s = Z := ⟨_, rfl⟩
    rw [hZ] at hw9 HF
    go_enter Tryz.func103, Tryz.ntmps103
    go_wp2_with (first
      | (go_at_call 127; first | (refine (CA u1).mono ?_; rintro e w1 ⟨rfl, e1⟩; obtain ⟨a0, a1, a2, a3, a4⟩ := Vec.five (B0.later e1); obtain ⟨a5, a6, a7, a8, a9⟩ := Vec.five (B1.later e1)) | (refine (CB w1).mono ?_; rintro e w2 ⟨rfl, e2⟩; obtain ⟨a0, a1, a2, a3, a4⟩ := Vec.five (B0.later (xt e1 e2)); obtain ⟨a5, a6, a7, a8, a9⟩ := Vec.five (B1.later (xt e1 e2))))
      | (go_at_call 48; refine (C0.out w2).mono ?_; rintro e w3 ⟨rfl, e3⟩))
    go_ret
    exact ⟨ret_bool HF.out, xt X (xt e1 (xt e2 e3))⟩
  · have HF : Hid (decide (A < B) = decide (Q < 0)) := by
      show _ = _
      rw [HS.out]
      by_cases h2 : A ≠ B ∨ A ≠ 0
      · rw [if_pos h2]; exact decide_eq_decide.2 (cmpI_lt0 A B).symm
      · exact absurd (show A = 0 ∧ B = 0 by omega) hL
    by_cases hA0 : A > 0
    · have f1 : decide (A > 0) = true := decide_eq_true hA0
      clear CC
      go_enter Tryz.func103, Tryz.ntmps103
      go_wp2_with (first
        | (go_at_call 127; first | (refine (CA u1).mono ?_; rintro e w1 ⟨rfl, e1⟩; obtain ⟨a0, a1, a2, a3, a4⟩ := Vec.five (B0.later e1); obtain ⟨a5, a6, a7, a8, a9⟩ := Vec.five (B1.later e1)) | (refine (CB w1).mono ?_; rintro e w2 ⟨rfl, e2⟩)))
      go_ret
      exact ⟨ret_bool HF.out, xt X (xt e1 e2)⟩
    · have hB0 : B > 0 := by omega
      obtain rfl : A = 0 := by omega
      have f2 : decide (B > 0) = true := decide_eq_true hB0
      have HF : Hid (true = decide (Q < 0)) := by show _ = _; rw [← HF.out]; exact (decide_eq_true (by omega)).symm
      clear CC
      go_enter Tryz.func103, Tryz.ntmps103
      go_wp2_with (first
        | (go_at_call 127; first | (refine (CA u1).mono ?_; rintro e w1 ⟨rfl, e1⟩; obtain ⟨a0, a1, a2, a3, a4⟩ := Vec.five (B0.later e1); obtain ⟨a5, a6, a7, a8, a9⟩ := Vec.five (B1.later e1)) | (refine (CB w1).mono ?_; rintro e w2 ⟨rfl, e2⟩)))
      go_ret
      exact ⟨ret_bool HF.out, xt X (xt e1 e2)⟩

theorem bytes_three : ∀ (a b : List UInt8), -1 ≤ Lib.compareBytes a b
  | [], [] => by decide
  | [], _ :: _ => (by decide : (-1 : Int) ≤ -1)
  | _ :: _, [] => (by decide : (-1 : Int) ≤ 1)
  | x :: a, y :: b => by
    unfold Lib.compareBytes
    split
    · decide
    · split
      · decide
      · exact bytes_three a b
theorem less_bytes (a b : List UInt8) : Op.bytesLess a b = decide (Lib.compareBytes a b < 0) := by
  have := bytes_three a b
  rw [cmp_less]
  exact decide_eq_decide.2 (by omega)
set_option maxRecDepth 8000 in
set_option maxHeartbeats 4000000 in
theorem aheadGS (va vb : Value) (la lb : List VT) (w : World) (ha : ValsIn w va la) (hb : ValsIn w vb lb) (ga : ∀ e ∈ la, e.good = true ∧ e.room) (gb : ∀ e ∈ lb, e.good = true ∧ e.room) (l1 : la.length ≤ 2000) (hl : la.length = lb.length) :
    Calls Tryz.prog 64 #[va, vb] w fun e w' => e = .returned (.bool (decide (lexG la lb < 0))) ∧ Ext w w' := by
  have CR : Hid (∀ a b W, (a ∈ la ∧ b ∈ lb) ∨ (a ∈ lb ∧ b ∈ la) → Calls Tryz.prog 103 #[a.val, b.val, .int .i64 1] W fun e w' => e = .returned (.bool (decide (standB a b 1 < 0))) ∧ Ext W w') := fun a b W h => by
    rcases h with ⟨h1, h2⟩ | ⟨h1, h2⟩
    · exact aheadS a b 1 (Or.inl rfl) W (ga a h1).2 (gb b h2).2 (ga a h1).1 (gb b h2).1
    · exact aheadS a b 1 (Or.inl rfl) W (gb a h1).2 (ga b h2).2 (gb a h1).1 (ga b h2).1
  have HG : Hid ((∀ e ∈ la, e.good = true) ∧ (∀ e ∈ lb, e.good = true)) := ⟨fun e h => (ga e h).1, fun e h => (gb e h).1⟩
  obtain ⟨pa, ca, rfl, hca, hra⟩ := ha
  obtain ⟨pb, cb, rfl, hcb, hrb⟩ := hb
  have HA : Hid (0 < la.length → ∃ b o, pa = some ⟨b, o, none⟩ ∧ RowV w b o la) := hra
  have HB : Hid (0 < lb.length → ∃ b o, pb = some ⟨b, o, none⟩ ∧ RowV w b o lb) := hrb
  obtain ⟨n, hn⟩ : ∃ n, la.length = n := ⟨_, rfl⟩
  have HN : Hid (la.length = n ∧ lb.length = n) := ⟨hn, by rw [← hl]; exact hn⟩
  rw [← hl] at hcb HB ⊢
  rw [hn] at hca hcb l1 HA HB ⊢
  obtain ⟨Q, hQ⟩ : ∃ Q, lexG la lb = Q := ⟨_, rfl⟩
  have HQ : Hid (lexG (la.drop 0) (lb.drop 0) = Q) := hQ
  rw [hQ]
  clear hra hrb hn hQ ga gb hl
  go_enter Tryz.func64, Tryz.ntmps64
  go_wp2_with fail
  go_loopw [10] (fun i wr => ∃ k : Nat, k ≤ n ∧ i = .int .i64 k ∧ Hid (Ext w wr ∧ lexG (la.drop k) (lb.drop k) = Q)) (fun i _ => n - (intOf i).toNat)
  case atStart => exact ⟨0, by omega, rfl, xr _, HQ.out⟩
  case round =>
    obtain ⟨k, hk, rfl, HO⟩ := hrel
    by_cases hlt : k < n
    · have i2 : (k : Int) < (n : Int) := by omega
      obtain ⟨⟨vk, vn, vd, vx, vt⟩, hx⟩ : ∃ x, la[k]? = some x := ⟨_, List.getElem?_eq_getElem (by rw [HN.out.1]; exact hlt)⟩
      obtain ⟨⟨uk, un, ud, ux, ut⟩, hy⟩ : ∃ x, lb[k]? = some x := ⟨_, List.getElem?_eq_getElem (by rw [HN.out.2]; exact hlt)⟩
      obtain ⟨b, o, rfl, RW⟩ := HA.out (by omega)
      obtain ⟨b', o', rfl, RW'⟩ := HB.out (by omega)
      obtain ⟨a0, a1, a2, a3, a4⟩ := (RW.later HO.out.1).five hx
      simp only at a0 a1 a2 a3 a4
      have gx := HG.out.1 _ (List.mem_of_getElem? hx)
      have gy := HG.out.2 _ (List.mem_of_getElem? hy)
      have HS : Hid (lexG (la.drop k) (lb.drop k) = if rankB ⟨vk, vn, vd, vx, vt⟩ ⟨uk, un, ud, ux, ut⟩ ≠ 0 then rankB ⟨vk, vn, vd, vx, vt⟩ ⟨uk, un, ud, ux, ut⟩ else lexG (la.drop (k + 1)) (lb.drop (k + 1))) := lexG_step hx hy
      have CXY := fun W => CR.out ⟨vk, vn, vd, vx, vt⟩ ⟨uk, un, ud, ux, ut⟩ W (Or.inl ⟨List.mem_of_getElem? hx, List.mem_of_getElem? hy⟩)
      have CYX := fun W => CR.out ⟨uk, un, ud, ux, ut⟩ ⟨vk, vn, vd, vx, vt⟩ W (Or.inr ⟨List.mem_of_getElem? hy, List.mem_of_getElem? hx⟩)
      have HZ : Hid (rankB ⟨vk, vn, vd, vx, vt⟩ ⟨uk, un, ud, ux, ut⟩ = 0 → vk = uk) := fun h => congrArg VT.k ((rank_zero gx gy).1 h)
      have HRK : Hid (rankB ⟨vk, vn, vd, vx, vt⟩ ⟨uk, un, ud, ux, ut⟩ = if vk = 4 ∧ uk = 4 then Lib.compareBytes vt ut else standB ⟨vk, vn, vd, vx, vt⟩ ⟨uk, un, ud, ux, ut⟩ 1) := rfl
      have HSW : Hid (standB ⟨uk, un, ud, ux, ut⟩ ⟨vk, vn, vd, vx, vt⟩ 1 = -standB ⟨vk, vn, vd, vx, vt⟩ ⟨uk, un, ud, ux, ut⟩ 1) := stand_swap gx gy 1
      obtain ⟨S, hS⟩ : ∃ S, standB ⟨vk, vn, vd, vx, vt⟩ ⟨uk, un, ud, ux, ut⟩ 1 = S := ⟨_, rfl⟩
      obtain ⟨S', hS'⟩ : ∃ S, standB ⟨uk, un, ud, ux, ut⟩ ⟨vk, vn, vd, vx, vt⟩ 1 = S := ⟨_, rfl⟩
      obtain ⟨R, hR⟩ : ∃ R, rankB ⟨vk, vn, vd, vx, vt⟩ ⟨uk, un, ud, ux, ut⟩ = R := ⟨_, rfl⟩
      rw [hS] at CXY HRK HSW
      rw [hS'] at CYX HSW
      rw [hR] at HS HZ HRK
      obtain ⟨u0, u1, e0, e1, z0, z1, B0, B1, X⟩ := mkB2 wr (valL vk vn vd vx vt) (valL uk un ud ux ut) 50 50
      have X0 : Ext wr u0 := by rw [← e0]; exact x1 wr _
      obtain ⟨b0, b1, b2, b3, b4⟩ := (RW'.later (xt HO.out.1 X0)).five hy
      simp only at b0 b1 b2 b3 b4
      obtain ⟨c0, c1, c2, c3, c4⟩ := Vec.five B0
      obtain ⟨d0, d1, d2, d3, d4⟩ := Vec.five B1
      have CE := fun W => isErrQ vk vn vd vx vt W
      have CF := fun W => isErrQ uk un ud ux ut W
      clear hS hS' hR hx hy RW RW' gx gy
      by_cases h4 : vk = 4 ∧ uk = 4
      · obtain ⟨hv, hu⟩ := h4
        rw [decide_eq_true hv] at CE
        rw [decide_eq_true hu] at CF
        have HRC : Hid (R = Lib.compareBytes vt ut) := by show _ = _; rw [HRK.out, if_pos ⟨hv, hu⟩]
        clear HRK HSW HZ CXY CYX
        subst hv hu
        by_cases ht : vt = ut
        · subst ht
          have HM : Hid (lexG (la.drop (k + 1)) (lb.drop (k + 1)) = Q) := by
            have h2 := HS.out
            have h3 := HRC.out
            rw [(bytes_zero vt vt).2 rfl] at h3
            rw [HO.out.2, if_neg (by omega)] at h2
            exact h2.symm
          clear HS HRC
          go_wp2_with fail
          refine (CE _).mono ?_
          rintro e w1 ⟨rfl, f1⟩
          obtain ⟨c0, c1, c2, c3, c4⟩ := Vec.five (B0.later (f1))
          obtain ⟨d0, d1, d2, d3, d4⟩ := Vec.five (B1.later (f1))
          go_wp2_with fail
          refine (CF _).mono ?_
          rintro e w2 ⟨rfl, f2⟩
          obtain ⟨c0, c1, c2, c3, c4⟩ := Vec.five (B0.later (xt f1 f2))
          obtain ⟨d0, d1, d2, d3, d4⟩ := Vec.five (B1.later (xt f1 f2))
          have HW : Hid (Ext w w2 ∧ lexG (la.drop (k + 1)) (lb.drop (k + 1)) = Q) := ⟨xt (xt HO.out.1 X) (xt f1 f2), HM.out⟩
          go_wp2_with fail
          go_roundw
          case rel => exact ⟨k + 1, by omega, by go_num, HW⟩
          case measure => simp [intOf]; omega
        · have ht1 : (vt == ut) = false := by simpa using ht
          have ht2 : (vt != ut) = true := by simpa using ht
          have ht3 : decide (vt = ut) = false := decide_eq_false ht
          have HM : Hid (Lib.compareBytes vt ut = Q) := by
            have h2 := HS.out
            have h3 := HRC.out
            rw [HO.out.2, if_pos (fun e => ht ((bytes_zero vt ut).1 (by omega)))] at h2
            exact h3 ▸ h2.symm
          clear HS HRC
          go_wp2_with fail
          refine (CE _).mono ?_
          rintro e w1 ⟨rfl, f1⟩
          obtain ⟨c0, c1, c2, c3, c4⟩ := Vec.five (B0.later (f1))
          obtain ⟨d0, d1, d2, d3, d4⟩ := Vec.five (B1.later (f1))
          go_wp2_with fail
          refine (CF _).mono ?_
          rintro e w2 ⟨rfl, f2⟩
          obtain ⟨c0, c1, c2, c3, c4⟩ := Vec.five (B0.later (xt f1 f2))
          obtain ⟨d0, d1, d2, d3, d4⟩ := Vec.five (B1.later (xt f1 f2))
          go_wp2_with fail
          go_ret
          exact ⟨ret_bool (by rw [← HM.out]; exact less_bytes _ _), xt (xt HO.out.1 X) (xt f1 f2)⟩
      · have HRS : Hid (R = S) := by show _ = _; rw [HRK.out, if_neg h4]
        by_cases hv : vk = 4
        · have hw : ¬ uk = 4 := fun e => h4 ⟨hv, e⟩
          rw [decide_eq_true hv] at CE
          rw [decide_eq_false hw] at CF
          clear h4 HRK
          subst hv
          go_wp2_with fail
          refine (CE _).mono ?_
          rintro e w1 ⟨rfl, f1⟩
          obtain ⟨c0, c1, c2, c3, c4⟩ := Vec.five (B0.later (f1))
          obtain ⟨d0, d1, d2, d3, d4⟩ := Vec.five (B1.later (f1))
          go_wp2_with fail
          refine (CF _).mono ?_
          rintro e w2 ⟨rfl, f2⟩
          obtain ⟨c0, c1, c2, c3, c4⟩ := Vec.five (B0.later (xt f1 f2))
          obtain ⟨d0, d1, d2, d3, d4⟩ := Vec.five (B1.later (xt f1 f2))
          rcases Int.lt_trichotomy S 0 with hs | hs | hs
          · have HM : Hid (true = decide (Q < 0)) := by
              have h2 := HS.out
              have h3 := HRS.out
              rw [HO.out.2, if_pos (by omega)] at h2
              show _ = _
              exact (decide_eq_true (by omega)).symm
            rw [decide_eq_true hs] at CXY
            clear CYX HS HZ HSW HRS
            go_wp2_with fail
            refine (CXY _).mono ?_
            rintro e w3 ⟨rfl, f3⟩
            go_wp2_with fail
            go_ret
            exact ⟨ret_bool HM.out, xt (xt HO.out.1 X) (xt (xt f1 f2) f3)⟩
          · exact absurd (HZ.out (by have := HRS.out; omega)) (fun e => hw e.symm)
          · have HM : Hid (false = decide (Q < 0)) := by
              have h2 := HS.out
              have h3 := HRS.out
              rw [HO.out.2, if_pos (by omega)] at h2
              show _ = _
              exact (decide_eq_false (by omega)).symm
            rw [decide_eq_false (by omega : ¬ S < 0)] at CXY
            rw [decide_eq_true (by have := HSW.out; omega : S' < 0)] at CYX
            clear HS HZ HSW HRS
            go_wp2_with fail
            refine (CXY _).mono ?_
            rintro e w3 ⟨rfl, f3⟩
            obtain ⟨c0, c1, c2, c3, c4⟩ := Vec.five (B0.later (xt (xt f1 f2) f3))
            obtain ⟨d0, d1, d2, d3, d4⟩ := Vec.five (B1.later (xt (xt f1 f2) f3))
            go_wp2_with fail
            refine (CYX _).mono ?_
            rintro e w4 ⟨rfl, f4⟩
            go_wp2_with fail
            go_ret
            exact ⟨ret_bool HM.out, xt (xt HO.out.1 X) (xt (xt (xt f1 f2) f3) f4)⟩
        · rw [decide_eq_false hv] at CE
          clear CF
          go_wp2_with fail
          refine (CE _).mono ?_
          rintro e w1 ⟨rfl, f1⟩
          obtain ⟨c0, c1, c2, c3, c4⟩ := Vec.five (B0.later (f1))
          obtain ⟨d0, d1, d2, d3, d4⟩ := Vec.five (B1.later (f1))
          rcases Int.lt_trichotomy S 0 with hs | hs | hs
          · have HM : Hid (true = decide (Q < 0)) := by
              have h2 := HS.out
              have h3 := HRS.out
              rw [HO.out.2, if_pos (by omega)] at h2
              show _ = _
              exact (decide_eq_true (by omega)).symm
            rw [decide_eq_true hs] at CXY
            clear CYX HS HZ HSW HRS
            go_wp2_with fail
            refine (CXY _).mono ?_
            rintro e w3 ⟨rfl, f3⟩
            go_wp2_with fail
            go_ret
            exact ⟨ret_bool HM.out, xt (xt HO.out.1 X) (xt (f1) f3)⟩
          · have hu := HZ.out (by have := HRS.out; omega)
            have HM : Hid (lexG (la.drop (k + 1)) (lb.drop (k + 1)) = Q) := by
              have h2 := HS.out
              have h3 := HRS.out
              rw [HO.out.2, if_neg (by omega)] at h2
              exact h2.symm
            rw [decide_eq_false (by omega : ¬ S < 0)] at CXY
            rw [decide_eq_false (by have := HSW.out; omega : ¬ S' < 0)] at CYX
            clear HS HZ HSW HRS hs
            subst hu
            go_wp2_with fail
            refine (CXY _).mono ?_
            rintro e w3 ⟨rfl, f3⟩
            obtain ⟨c0, c1, c2, c3, c4⟩ := Vec.five (B0.later (xt (f1) f3))
            obtain ⟨d0, d1, d2, d3, d4⟩ := Vec.five (B1.later (xt (f1) f3))
            go_wp2_with fail
            refine (CYX _).mono ?_
            rintro e w4 ⟨rfl, f4⟩
            obtain ⟨c0, c1, c2, c3, c4⟩ := Vec.five (B0.later (xt (xt (f1) f3) f4))
            obtain ⟨d0, d1, d2, d3, d4⟩ := Vec.five (B1.later (xt (xt (f1) f3) f4))
            have HW : Hid (Ext w w4 ∧ lexG (la.drop (k + 1)) (lb.drop (k + 1)) = Q) := ⟨xt (xt HO.out.1 X) (xt (xt (f1) f3) f4), HM.out⟩
            go_wp2_with fail
            go_roundw
            case rel => exact ⟨k + 1, by omega, by go_num, HW⟩
            case measure => simp [intOf]; omega
          · have HM : Hid (false = decide (Q < 0)) := by
              have h2 := HS.out
              have h3 := HRS.out
              rw [HO.out.2, if_pos (by omega)] at h2
              show _ = _
              exact (decide_eq_false (by omega)).symm
            rw [decide_eq_false (by omega : ¬ S < 0)] at CXY
            rw [decide_eq_true (by have := HSW.out; omega : S' < 0)] at CYX
            clear HS HZ HSW HRS
            go_wp2_with fail
            refine (CXY _).mono ?_
            rintro e w3 ⟨rfl, f3⟩
            obtain ⟨c0, c1, c2, c3, c4⟩ := Vec.five (B0.later (xt (f1) f3))
            obtain ⟨d0, d1, d2, d3, d4⟩ := Vec.five (B1.later (xt (f1) f3))
            go_wp2_with fail
            refine (CYX _).mono ?_
            rintro e w4 ⟨rfl, f4⟩
            go_wp2_with fail
            go_ret
            exact ⟨ret_bool HM.out, xt (xt HO.out.1 X) (xt (xt (f1) f3) f4)⟩
    · obtain rfl : k = n := by omega
      have i2 : ¬ (k : Int) < (k : Int) := by omega
      have HM : Hid (false = decide (Q < 0)) := by
        show _ = _
        rw [← HO.out.2, lexG_end (by rw [HN.out.1]; exact Nat.le_refl _) (by rw [HN.out.2]; exact Nat.le_refl _)]
        rfl
      go_wp2_with fail
      go_ret
      exact ⟨ret_bool HM.out, HO.out.1⟩

abbrev telG (l : List VT) (c : Nat) (cols : List Nat) (y : Nat) (i : Nat) : List VT × List Nat := (keyG l c cols i, rowsG (kapG l c cols) y i)
/-- A row of a key that has been there. -/
theorem told_old {l : List VT} {c : Nat} {cols : List Nat} {y j f : Nat} {L : List GG} {x : GG} {e : GE} (h : L.map GG.told = (firstsG (kapG l c cols) y).map (telG l c cols y)) (hx : L[j]? = some x) (hf : (firstsG (kapG l c cols) y)[j]? = some f) (hk : kapG l c cols f = kapG l c cols y) (he : e.ns = x.e.ns ++ [y]) :
    (L.set j ⟨x.kv, x.K, e⟩).map GG.told = (firstsG (kapG l c cols) (y + 1)).map (telG l c cols (y + 1)) := by
  have hfm := List.mem_of_getElem? hf
  rw [firstsG_old hfm hk]
  apply List.ext_getElem?
  intro i
  have hi := congrArg (fun z => z[i]?) h
  simp only [List.getElem?_map] at hi
  rw [List.getElem?_map, List.getElem?_map]
  by_cases q : i = j
  · subst q
    rw [hx, hf] at hi
    simp only [Option.map_some, Option.some.injEq] at hi
    rw [List.getElem?_set_self (List.getElem?_eq_some_iff.1 hx).1, hf]
    simp only [Option.map_some, Option.some.injEq]
    unfold telG GG.told at hi ⊢
    obtain ⟨h1, h2⟩ := Prod.mk.inj hi
    rw [rowsG_succ, if_pos hk.symm, ← h2, ← h1, he]
  · rw [List.getElem?_set_ne (fun z => q z.symm), hi]
    cases hz : (firstsG (kapG l c cols) y)[i]? with
    | none => rfl
    | some z =>
      simp only [Option.map_some, Option.some.injEq]
      unfold telG
      have hzm := List.mem_of_getElem? hz
      have hne : ¬ kapG l c cols y = kapG l c cols z := fun e => by
        have e2 := firstsG_one hfm hzm (hk.trans e)
        have nd := firstsG_nodup (kapG l c cols) y
        have h1 := List.getElem?_eq_some_iff.1 hf
        have h2 := List.getElem?_eq_some_iff.1 hz
        obtain ⟨a1, b1⟩ := h1
        obtain ⟨a2, b2⟩ := h2
        exact q ((List.getElem_inj nd).1 (b2.trans (e2.symm.trans b1.symm)))
      rw [rowsG_succ, if_neg hne, List.append_nil]
/-- A row of a new key. -/
theorem told_new {l : List VT} {c : Nat} {cols : List Nat} {y : Nat} {L : List GG} {x : GG} (h : L.map GG.told = (firstsG (kapG l c cols) y).map (telG l c cols y)) (hn : ∀ f ∈ firstsG (kapG l c cols) y, kapG l c cols f ≠ kapG l c cols y) (hK : x.K = keyG l c cols y) (he : x.e.ns = [y]) :
    (L ++ [x]).map GG.told = (firstsG (kapG l c cols) (y + 1)).map (telG l c cols (y + 1)) := by
  obtain ⟨e1, e2⟩ := firstsG_new hn
  rw [e1, List.map_append, List.map_append, h]
  congr 1
  · apply List.map_congr_left
    intro f hf
    unfold telG
    rw [rowsG_succ, if_neg (fun e => hn f hf e.symm), List.append_nil]
  · show [x.told] = [telG l c cols (y + 1) y]
    unfold telG GG.told
    rw [rowsG_start e2, hK, he]
theorem ownI_one {w : World} (y : Nat) : OwnI (w.alloc (.cells #[.int .i64 y] 3)) w.heap.size (GE.sl ⟨w.heap.size, 1, [y]⟩) [y] := by
  refine ⟨rfl, .inr ⟨w.heap.size, 1, #[.int .i64 y], rfl, Nat.le_refl _, heap_alloc_new _ _, Nat.le_refl _, by decide, rfl, rfl⟩⟩
theorem ownsRow_low {w : World} {b b' sz n : Nat} {t : TypeId} {v : Value} {xs : List Value} (hb : b' ≤ b) (h : w.ownsRow b t sz v n xs) : w.ownsRow b' t sz v n xs := by
  refine ⟨h.1, h.2.imp id ?_⟩
  rintro ⟨g, cap, cur, a1, a2, a3⟩
  exact ⟨g, cap, cur, a1, by omega, a3⟩
/-- A group of one row, the first of its key. -/
theorem LieG.new {wo wr : World} {B : Nat} {v : Value} {L : List GG} (h : LieG wo B B v L) (hB : B ≤ wo.heap.size) (E : Ext wo wr) (sv : Value) (K : List VT) (hk : OwnW wr wo.heap.size sv K) (y : Nat) (hl : L.length ≤ 1000000) :
    ∃ v' w', (Builtin.append_ #[37, 37] 37 #[v, .slice (some ⟨wr.heap.size + 1, 0, none⟩) 1 1]).run Tryz.prog ((wr.alloc (.cells #[.int .i64 y] 3)).alloc (.cells #[sv, .slice (some ⟨wr.heap.size, 0, none⟩) 1 1] 73)) = .ok v' w' ∧ LieG w' B B v' (L ++ [⟨sv, K, ⟨wr.heap.size, 1, [y]⟩⟩]) ∧ ((wr.alloc (.cells #[.int .i64 y] 3)).alloc (.cells #[sv, .slice (some ⟨wr.heap.size, 0, none⟩) 1 1] 73)).grownBy w' v.ownBlock := by
  have XB := x1 wr (.cells #[.int .i64 y] 3)
  have OI := ownI_one (w := wr) y
  have sB : (wr.alloc (.cells #[.int .i64 y] 3)).heap.size = wr.heap.size + 1 := World.size_alloc _ _
  obtain ⟨w5, hw5⟩ : ∃ w5, wr.alloc (.cells #[.int .i64 y] 3) = w5 := ⟨_, rfl⟩
  rw [hw5] at XB OI sB ⊢
  have XC := x1 w5 (.cells #[sv, .slice (some ⟨wr.heap.size, 0, none⟩) 1 1] 73)
  have VC := vec_made w5 [sv, .slice (some ⟨wr.heap.size, 0, none⟩) 1 1] 73
  rw [sB] at VC
  have hs := E.size
  have kb := ownW_block hk
  have kl := ownW_lt hk
  have lv : ∀ g, v.ownBlock = some g → g < wo.heap.size := fun g hg => ownsRow_ltG h.list g hg
  refine LieG.add (h.later (xt E (xt XB XC))) ⟨sv, K, ⟨wr.heap.size, 1, [y]⟩⟩ (ownsRow_low hB (ownsRow_laterG hk (xt XB XC))) (ownsRow_low (by omega) (ownsRow_laterG OI XC)) ⟨fun q => ?_, fun g hg => ⟨fun q => ?_, fun q => ?_⟩⟩ (fun z hz => ⟨fun b hb => ⟨fun q => ?_, fun q => ?_⟩, fun b hb q => ?_, fun q => ?_⟩) (wr.heap.size + 1) VC hl (by have := XC.size; omega)
  · have := kl _ q; have : wr.heap.size < wr.heap.size := this; omega
  · have := kb _ q; have := lv g hg; omega
  · have := lv g hg; have : wr.heap.size = g := q; omega
  · have := kb _ q; have := ownsRow_ltG (h.keys z hz) b hb; omega
  · have := ownsRow_ltG (h.keys z hz) b hb; have : wr.heap.size = b := q; omega
  · have := kb _ hb; have := ownsRow_ltG (h.rows z hz) _ (sl_block z.e); omega
  · have := ownsRow_ltG (h.rows z hz) _ (sl_block z.e); have : z.e.g = wr.heap.size := q; omega

end Go.Proofs.YtbomplppgobkdaaGreatDoor

