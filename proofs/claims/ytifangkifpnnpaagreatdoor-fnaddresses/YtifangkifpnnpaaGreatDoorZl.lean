/-
  FnAddresses, walked.
-/
import Derived.Test.YtifangkifpnnpaaGreatDoorZe
import Derived.Test.YtifangkifpnnpaaGreatDoorBa
import Derived.Test.YtifangkifpnnpaaGreatDoorRs
import Derived.Deep.RegionHeld3
namespace Go.Proofs.YtifangkifpnnpaaGreatDoor
open Go.RowKit

theorem CodeIn.later {w w' : World} {v : Value} {n : Nat} (h : CodeIn w w.heap.size v n) (x : Ext w w') : CodeIn w' w'.heap.size v n := by
  rcases h with h | ⟨pb, po, cap, h1, h2, h3, h4⟩
  · exact .inl h
  · refine .inr ⟨pb, po, cap, Nat.lt_of_lt_of_le h1 x.size, h2, h3, fun i hi => ?_⟩
    obtain ⟨z, z0, z1, hz⟩ := h4 i hi
    exact ⟨z, z0, z1, cell_later x hz⟩
theorem byT_good {r c row col : Int} {rf cf : Bool} (h : GoodR r c) (hh : GoodR row col) : byT r c rf cf row col = byL r c rf cf row col := by unfold byT; rw [if_pos ⟨h, hh⟩]
theorem byL_len {r c row col : Int} (rf cf : Bool) (h : GoodR r c) (hh : GoodR row col) : 2 ≤ (byL r c rf cf row col).length ∧ (byL r c rf cf row col).length ≤ 100 := by
  obtain ⟨⟨r0, r1⟩, c0, c1⟩ := h
  obtain ⟨⟨r2, r3⟩, c2, c3⟩ := hh
  have a1 := farL_len (a := r) (h := row) r0 r1 r2 r3 rf
  have a2 := farL_len (a := c) (h := col) c0 (by omega) c2 (by omega) cf
  unfold byL
  simp only [List.length_append, List.length_cons, List.length_nil]
  omega

theorem nil_empty : (bs []).toList.isEmpty = true := by
  have : (bs []).toList = [] := by unfold ByteArray.toList; unfold ByteArray.toList.loop; rfl
  rw [this]; rfl
theorem not_empty {t : List UInt8} (h : 2 ≤ t.length) : (bs t).toList.isEmpty = false := by
  cases hE : (bs t).toList.isEmpty
  · rfl
  · have e := toList_injA ((List.isEmpty_iff.1 hE).trans (List.isEmpty_iff.1 nil_empty).symm)
    have := bs_size t
    rw [e, bs_size] at this
    simp at this
    omega

set_option maxRecDepth 8000 in
set_option maxHeartbeats 16000000 in
theorem lawAddr_p (p : Option Addr) (n cap : Nat) (w : World) (hc : CodeIn w w.heap.size (.slice p n cap) n) (hb : n ≤ 1048576) (LW : LibW w) (IT : ItoaC w) :
    Calls Tryz.prog 3 #[.slice p n cap] w fun e w' => e = .returned (.bool true) ∧ Ext w w' := by
  have CD := drawBy _ n w hc hb
  have CA := fun w' (x : Ext w w') => drawRead _ n w' (hc.later x) hb
  have RI := fun (l : List UInt8) (hl : l.length ≤ 1000) (w' : World) (x : Ext w w') => readRefI l w' (by omega) (LW.later x) IT x
  have BI := fun (l : List UInt8) (row col : Int) (hl : l.length ≤ 1000) (w' : World) (x : Ext w w') => readByI l row col w' (by omega) (LW.later x) IT x
  have TI := fun (r c : Int) (rf cf : Bool) (w' : World) (x : Ext w w') => refTextI r c rf cf w' IT x
  have YI := fun (r c : Int) (rf cf : Bool) (row col : Int) (w' : World) (x : Ext w w') => byTextI r c rf cf row col w' IT x
  have fl : decide ((n : Int) > 1048576) = false := by simp; omega
  clear hc LW IT
  go_enter Tryz.func3, Tryz.ntmps3
  go_wp2_with fail
  refine CD.mono ?_
  clear CD
  rintro e w1 ⟨r, c, rf, cf, row, col, rfl, e1⟩
  have P := Box4.made w1 (.int .i64 r) (.int .i64 c) (.bool rf) (.bool cf) 24
  have X1 := xa e1 (.cells #[.int .i64 r, .int .i64 c, .bool rf, .bool cf] 24)
  clear e1
  go_wp2_with fail
  refine (TI r c rf cf _ X1).mono ?_
  rintro e w2 ⟨rfl, e2⟩
  have P := P.later e2
  have X2 := xt X1 e2
  clear X1 e2
  obtain ⟨⟨q0, q1, q2, q3⟩, _⟩ := id P
  go_wp2_with fail
  refine (YI r c rf cf row col _ X2).mono ?_
  rintro e w3 ⟨rfl, e3⟩
  have P := P.later e3
  have X3 := xt X2 e3
  clear X2 e3 q0 q1 q2 q3
  obtain ⟨⟨q0, q1, q2, q3⟩, _⟩ := id P
  obtain ⟨t, ht⟩ : ∃ t, refT r c rf cf = t := ⟨_, rfl⟩
  obtain ⟨u, hu⟩ : ∃ u, byT r c rf cf row col = u := ⟨_, rfl⟩
  rw [ht, hu]
  have TS := refTextS r c rf cf w3
  have YS := fun w' => byTextS r c rf cf row col w'
  rw [ht] at TS
  rw [hu] at YS
  clear YI
  go_wp2_with fail
  refine TS.mono ?_
  rintro e w4 ⟨rfl, e4⟩
  have P := P.later e4
  have X4 := xt X3 e4
  clear X3 e4 q0 q1 q2 q3 TS
  obtain ⟨⟨q0, q1, q2, q3⟩, _⟩ := id P
  go_wp2_with fail
  refine (YS w4).mono ?_
  rintro e w5 ⟨rfl, e5⟩
  have P := P.later e5
  have X5 := xt X4 e5
  clear X4 e5 q0 q1 q2 q3 YS
  have CI := colI c
  by_cases hg : GoodR r c
  · have hl : 2 ≤ t.length ∧ t.length ≤ 100 := by rw [← ht, refT_good hg]; exact refL_len rf cf hg
    have ft := not_empty hl.1
    have kt : RefOK t true r c rf cf := .inl ⟨rfl, hg, by rw [← ht, refT_good hg]⟩
    clear ht
    go_wp2_with fail
    refine (RI t (by omega) w5 X5).mono ?_
    rintro e w6 ⟨ok, r', c', rf', cf', rfl, HO, e6⟩
    obtain ⟨rfl, rfl, rfl, rfl, rfl⟩ := kt.one HO
    have P := P.later e6
    have X6 := xt X5 e6
    clear X5 e6 HO kt
    obtain ⟨⟨q0, q1, q2, q3⟩, _⟩ := id P
    have P := P.later (x1 w6 (.cells #[.int .i64 r, .int .i64 c, .bool rf, .bool cf] 24))
    have X7 := xa X6 (.cells #[.int .i64 r, .int .i64 c, .bool rf, .bool cf] 24)
    clear q0 q1 q2 q3
    obtain ⟨⟨q0, q1, q2, q3⟩, _⟩ := id P
    have P2 := Box4.made w6 (.int .i64 r) (.int .i64 c) (.bool rf) (.bool cf) 24
    obtain ⟨⟨a0, a1, a2, a3⟩, _⟩ := id P2
    have CN : ∀ w', Calls Tryz.prog 10 #[.string (bs (colName c))] w' fun e w'' => e = .returned (.int .i64 c) ∧ w'' = w' := fun w' => by
      have := colNumI (bs (colName c)) (colName c) w' (bs_list _) (by rw [bs_size]; have := colName_len c; omega)
      rw [show colV (colName c) = c by unfold colName; rw [if_pos hg.2]; exact colV_colN hg.2.1 hg.2.2] at this
      exact this
    go_upto_region 10 with fail
    go_cut [66] (fun v wc => v = .bool false ∧ Box4 wc w1.heap.size (.int .i64 r) (.int .i64 c) (.bool rf) (.bool cf) ∧ Ext (w6.alloc (.cells #[.int .i64 r, .int .i64 c, .bool rf, .bool cf] 24)) wc)
    case first =>
      go_region_held3 (fun w' => w'.cell? ⟨w1.heap.size, 0, none⟩ = some (.int .i64 r) ∧ w'.cell? ⟨w1.heap.size, 1, none⟩ = some (.int .i64 c) ∧ w'.cell? ⟨w1.heap.size, 2, none⟩ = some (.bool rf) ∧ w'.cell? ⟨w1.heap.size, 3, none⟩ = some (.bool cf) ∧ w'.cell? ⟨w6.heap.size, 0, none⟩ = some (.int .i64 r) ∧ w'.cell? ⟨w6.heap.size, 1, none⟩ = some (.int .i64 c) ∧ w'.cell? ⟨w6.heap.size, 2, none⟩ = some (.bool rf) ∧ w'.cell? ⟨w6.heap.size, 3, none⟩ = some (.bool cf)) (go_keep) (first
        | (go_at_call 11; refine (CI _).mono ?_; rintro e w7 ⟨rfl, rfl⟩)
        | (go_at_call 10; refine (CN _).mono ?_; rintro e w8 ⟨rfl, rfl⟩))
      all_goals go_wp2_with fail
      all_goals
        go_meet
        case rel => exact ⟨rfl, by first | exact P | exact P.later (xd (xr _)), by first | exact xr _ | exact xd (xr _)⟩
    case rest =>
      obtain ⟨rfl, P, x2⟩ := hcut
      have X8 := xt X7 x2
      clear X7 X6 x2 P2 a0 a1 a2 a3 q0 q1 q2 q3 CN
      by_cases hh : GoodR row col
      · have hl2 : 2 ≤ u.length ∧ u.length ≤ 100 := by rw [← hu, byT_good hg hh]; exact byL_len rf cf hg hh
        have fu := not_empty hl2.1
        have ku : ByOK u row col true r c rf cf := .inl ⟨rfl, ⟨hg, hh⟩, by rw [← hu, byT_good hg hh]⟩
        clear hu
        go_wp2_with fail
        refine (BI u row col (by omega) wc X8).mono ?_
        rintro e w9 ⟨ok, r', c', rf', cf', rfl, HO, e9⟩
        obtain ⟨rfl, rfl, rfl, rfl, rfl⟩ := ku.one HO
        have P := (P.later e9).later (x1 w9 (.cells #[.int .i64 r, .int .i64 c, .bool rf, .bool cf] 24))
        have X9 := xa (xt X8 e9) (.cells #[.int .i64 r, .int .i64 c, .bool rf, .bool cf] 24)
        clear X8 e9 HO ku
        obtain ⟨⟨q0, q1, q2, q3⟩, _⟩ := P
        go_wp2_with fail
        refine (CA _ X9).mono ?_
        rintro e wa ⟨l', rfl, hl', ea⟩
        have Xa := xt X9 ea
        clear X9 ea
        go_wp2_with fail
        refine (RI l' hl' wa Xa).mono ?_
        rintro e wb ⟨ok, r2, c2, f2, g2, rfl, HO, eb⟩
        have Pa := Box4.made wb (.int .i64 r2) (.int .i64 c2) (.bool f2) (.bool g2) 24
        have Xb := xa (xt Xa eb) (.cells #[.int .i64 r2, .int .i64 c2, .bool f2, .bool g2] 24)
        clear Xa eb
        go_wp2_with fail
        refine (readRefS l' _ (by omega)).mono ?_
        rintro e wd ⟨ok', r3, c3, f3, g3, rfl, HO', ed⟩
        obtain ⟨rfl, rfl, rfl, rfl, rfl⟩ := HO.one HO'
        have Xd := xa (xt Xb ed) (.cells #[.int .i64 r2, .int .i64 c2, .bool f2, .bool g2] 24)
        have Pa := (Pa.later ed).later (x1 wd (.cells #[.int .i64 r2, .int .i64 c2, .bool f2, .bool g2] 24))
        obtain ⟨⟨a0, a1, a2, a3⟩, _⟩ := Pa
        clear Xb ed HO'
        cases ok
        · go_wp2_with fail
          all_goals go_ret
          all_goals exact ⟨rfl, Xd⟩
        · have hT : refT r2 c2 f2 g2 = l' := by
            rcases HO with ⟨_, g, e⟩ | ⟨h, _⟩
            · rw [refT_good g, e]
            · cases h
          have TT := TI r2 c2 f2 g2 _ Xd
          rw [hT] at TT
          clear HO hT TI
          go_wp2_with fail
          refine TT.mono ?_
          rintro e we ⟨rfl, ee⟩
          have Xe := xt Xd ee
          clear TT Xd ee
          go_wp2_with fail
          all_goals go_ret
          all_goals exact ⟨rfl, Xe⟩
      · have hl2 : u = [] := by rw [← hu]; unfold byT; rw [if_neg (fun k => hh k.2)]
        subst hl2
        have fu := nil_empty
        clear hu
        go_wp2_with fail
        refine (CA wc X8).mono ?_
        rintro e wa ⟨l', rfl, hl', ea⟩
        have Xa := xt X8 ea
        clear X8 ea
        go_wp2_with fail
        refine (RI l' hl' wa Xa).mono ?_
        rintro e wb ⟨ok, r2, c2, f2, g2, rfl, HO, eb⟩
        have Pa := Box4.made wb (.int .i64 r2) (.int .i64 c2) (.bool f2) (.bool g2) 24
        have Xb := xa (xt Xa eb) (.cells #[.int .i64 r2, .int .i64 c2, .bool f2, .bool g2] 24)
        clear Xa eb
        go_wp2_with fail
        refine (readRefS l' _ (by omega)).mono ?_
        rintro e wd ⟨ok', r3, c3, f3, g3, rfl, HO', ed⟩
        obtain ⟨rfl, rfl, rfl, rfl, rfl⟩ := HO.one HO'
        have Xd := xa (xt Xb ed) (.cells #[.int .i64 r2, .int .i64 c2, .bool f2, .bool g2] 24)
        have Pa := (Pa.later ed).later (x1 wd (.cells #[.int .i64 r2, .int .i64 c2, .bool f2, .bool g2] 24))
        obtain ⟨⟨a0, a1, a2, a3⟩, _⟩ := Pa
        clear Xb ed HO'
        cases ok
        · go_wp2_with fail
          all_goals go_ret
          all_goals exact ⟨rfl, Xd⟩
        · have hT : refT r2 c2 f2 g2 = l' := by
            rcases HO with ⟨_, g, e⟩ | ⟨h, _⟩
            · rw [refT_good g, e]
            · cases h
          have TT := TI r2 c2 f2 g2 _ Xd
          rw [hT] at TT
          clear HO hT TI
          go_wp2_with fail
          refine TT.mono ?_
          rintro e we ⟨rfl, ee⟩
          have Xe := xt Xd ee
          clear TT Xd ee
          go_wp2_with fail
          all_goals go_ret
          all_goals exact ⟨rfl, Xe⟩
  · have hl : t = [] := by rw [← ht]; unfold refT; rw [if_neg hg]
    have hl2 : u = [] := by rw [← hu]; unfold byT; rw [if_neg (fun k => hg k.1)]
    subst hl hl2
    have ft := nil_empty
    go_wp2_with fail
    refine (CA w5 X5).mono ?_
    rintro e wa ⟨l', rfl, hl', ea⟩
    have Xa := xt X5 ea
    clear X5 ea
    go_wp2_with fail
    refine (RI l' hl' wa Xa).mono ?_
    rintro e wb ⟨ok, r2, c2, f2, g2, rfl, HO, eb⟩
    have Pa := Box4.made wb (.int .i64 r2) (.int .i64 c2) (.bool f2) (.bool g2) 24
    have Xb := xa (xt Xa eb) (.cells #[.int .i64 r2, .int .i64 c2, .bool f2, .bool g2] 24)
    clear Xa eb
    go_wp2_with fail
    refine (readRefS l' _ (by omega)).mono ?_
    rintro e wd ⟨ok', r3, c3, f3, g3, rfl, HO', ed⟩
    obtain ⟨rfl, rfl, rfl, rfl, rfl⟩ := HO.one HO'
    have Xd := xa (xt Xb ed) (.cells #[.int .i64 r2, .int .i64 c2, .bool f2, .bool g2] 24)
    have Pa := (Pa.later ed).later (x1 wd (.cells #[.int .i64 r2, .int .i64 c2, .bool f2, .bool g2] 24))
    obtain ⟨⟨a0, a1, a2, a3⟩, _⟩ := Pa
    clear Xb ed HO'
    cases ok
    · go_wp2_with fail
      all_goals go_ret
      all_goals exact ⟨rfl, Xd⟩
    · have hT : refT r2 c2 f2 g2 = l' := by
        rcases HO with ⟨_, g, e⟩ | ⟨h, _⟩
        · rw [refT_good g, e]
        · cases h
      have TT := TI r2 c2 f2 g2 _ Xd
      rw [hT] at TT
      clear HO hT TI
      go_wp2_with fail
      refine TT.mono ?_
      rintro e we ⟨rfl, ee⟩
      have Xe := xt Xd ee
      clear TT Xd ee
      go_wp2_with fail
      all_goals go_ret
      all_goals exact ⟨rfl, Xe⟩

set_option maxRecDepth 8000 in
set_option maxHeartbeats 1000000 in
theorem lawAddr_big (p : Option Addr) (n cap : Nat) (w : World) (hb : ¬ n ≤ 1048576) :
    Calls Tryz.prog 3 #[.slice p n cap] w fun e w' => e = .returned (.bool true) ∧ Ext w w' := by
  have fl : decide ((n : Int) > 1048576) = true := by simp; omega
  go_enter Tryz.func3, Tryz.ntmps3
  go_wp2_with fail
  go_ret
  exact ⟨rfl, xr _⟩
theorem lawAddr (v : Value) (n : Nat) (w : World) (hc : CodeIn w w.heap.size v n) (LW : LibW w) (IT : ItoaC w) :
    Calls Tryz.prog 3 #[v] w fun e w' => e = .returned (.bool true) ∧ Ext w w' := by
  have hv : ∃ p cap, v = .slice p n cap := by
    rcases hc with ⟨⟨p, cap, h⟩, rfl⟩ | ⟨pb, po, cap, _, h, _⟩
    · exact ⟨p, cap, h⟩
    · exact ⟨_, cap, h⟩
  obtain ⟨p, cap, rfl⟩ := hv
  by_cases hb : n ≤ 1048576
  · exact lawAddr_p p n cap w hc hb LW IT
  · exact lawAddr_big p n cap w hb

end Go.Proofs.YtifangkifpnnpaaGreatDoor
