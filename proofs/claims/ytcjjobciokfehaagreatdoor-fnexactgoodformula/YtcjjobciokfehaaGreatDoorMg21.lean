/-
  Several texts in one: Fi, Fj, Good, Ft.
-/
import Derived.Test.YtcjjobciokfehaaGreatDoorMg18
import Derived.Test.YtcjjobciokfehaaGreatDoorFb
import Derived.Test.YtcjjobciokfehaaGreatDoorMg20
import Derived.Test.YtcjjobciokfehaaGreatDoorMg3
namespace Go.Proofs.YtcjjobciokfehaaGreatDoor
open Go.RowKit

/-- Whether a text is an address. -/
noncomputable def refOkB (l : List UInt8) : Bool := by
 classical
 exact decide (∃ r c rf cf, RefOK l true r c rf cf)
theorem refOk_of {l : List UInt8} {ok : Bool} {r c : Int} {rf cf : Bool} (h : RefOK l ok r c rf cf) : ok = refOkB l := by
 classical
 unfold refOkB
 cases ok
 ·
  symm
  refine decide_eq_false ?_
  rintro ⟨r', c', rf', cf', h'⟩
  unfold RefOK at h h'
  rcases h with ⟨h1, _⟩ | ⟨_, h2⟩
  ·
   cases h1
  ·
   rcases h' with ⟨_, h3⟩ | ⟨h3, _⟩
   ·
    exact h2.2 r' c' rf' cf' h3.1 h3.2
   ·
    cases h3
 ·
  symm
  exact decide_eq_true ⟨r, c, rf, cf, h⟩
theorem all_takeWhile (P : UInt8 → Bool) (l : List UInt8) : ∀ c ∈ l.takeWhile P, P c = true := by
 induction l with
 | nil => intro c hc; cases hc
 | cons x l ih =>
  intro c hc
  by_cases h : P x = true
  ·
   rw [List.takeWhile_cons_of_pos h] at hc
   rcases List.mem_cons.1 hc with rfl | hc
   ·
    exact h
   ·
    exact ih c hc
  ·
   rw [List.takeWhile_cons_of_neg h] at hc
   cases hc
/-- A name. -/
noncomputable def nameB (l : List UInt8) : Bool :=
 (letZ ((l.getD 0 0).toNat : Int) || (((l.getD 0 0).toNat : Int) == 95)) && !decide (20 < l.length) && l.all wordC && !refOkB (l.map upC) && !boolB (l.map upC) && !placeB (l.map upC)

set_option maxRecDepth 8000 in
set_option maxHeartbeats 2000000 in
theorem nameI (l : List UInt8) (w : World) (hl : l.length ≤ 1048576) (LW : LibW w) {w0 : World} (IT : ItoaC w0) (X0 : Ext w0 w) :
  Calls Tryz.prog 68 #[.string (bs l)] w fun e w' => e = .returned (.bool (nameB l)) ∧ Ext w w' := by
 have B0 : ∀ w, Calls Tryz.prog 88 #[.string (bs l), .int .i64 0] w fun e w' => e = .returned (.int .u8 ((l.getD 0 0).toNat : Int)) ∧ w' = w := fun w => byteAtI l 0 w
 have WL : ∀ w, Calls Tryz.prog 90 #[.string (bs l)] w fun e w' => e = .returned (.int .i64 ((l.takeWhile wordC).length : Int)) ∧ w' = w := fun w => wordLenI l w (by omega)
 have CP : ∀ w, Calls Tryz.prog 36 #[.string (bs l)] w fun e w' => e = .returned (.string (bs (l.map upC))) ∧ Ext w w' := fun w => capsI l w (by omega)
 have hul : (l.map upC).length ≤ 1048576 := by simpa using hl
 have BL : ∀ w, Calls Tryz.prog 65 #[.string (bs (l.map upC))] w fun e w' => e = .returned (.bool (boolB (l.map upC))) ∧ w' = w := fun w => boolI _ w
 have PL := fun w => placeI (l.map upC) w (by omega)
 have RR := fun w LW X0 => readRefI (l.map upC) w hul LW IT (w0 := w0) X0
 have hsz : (bs l).size = l.length := bs_size l
 have hW : ((l.takeWhile wordC).length = l.length) ↔ l.all wordC = true := by
  constructor
  ·
   intro h
   have e : l.takeWhile wordC = l := by
    have := (splitW wordC l).1
    rw [h, List.take_length] at this
    exact this.symm
   rw [← e, List.all_eq_true]
   exact all_takeWhile wordC l
  ·
   intro h
   exact takeWhile_at wordC l l.length (by rw [List.take_length]; exact h) (Nat.le_refl _) (.inl rfl)
 have eN : nameB l = ((letZ ((l.getD 0 0).toNat : Int) || (((l.getD 0 0).toNat : Int) == 95)) && !decide (20 < l.length) && l.all wordC && !refOkB (l.map upC) && !boolB (l.map upC) && !placeB (l.map upC)) := rfl
 rw [eN]
 clear eN
 obtain ⟨s, hs⟩ : ∃ s, bs l = s := ⟨_, rfl⟩
 obtain ⟨u, hu⟩ : ∃ u, l.map upC = u := ⟨_, rfl⟩
 obtain ⟨N, hN⟩ : ∃ N : Int, ((l.getD 0 0).toNat : Int) = N := ⟨_, rfl⟩
 obtain ⟨n, hn⟩ : ∃ n, l.length = n := ⟨_, rfl⟩
 obtain ⟨k, hk⟩ : ∃ k, (l.takeWhile wordC).length = k := ⟨_, rfl⟩
 obtain ⟨D, hD⟩ : ∃ D, l.all wordC = D := ⟨_, rfl⟩
 rw [hs] at B0 WL CP hsz ⊢
 rw [hu] at CP BL PL RR ⊢
 rw [hN] at B0 ⊢
 rw [hn] at hsz hW hl ⊢
 rw [hk] at WL hW
 rw [hD] at hW ⊢
 clear hs hu hN hn hk hD hul
 obtain ⟨A, hA⟩ : ∃ A, letZ N = A := ⟨_, rfl⟩
 obtain ⟨B, hB⟩ : ∃ B, (N == 95) = B := ⟨_, rfl⟩
 have LT := fun w => ltrI N w
 rw [hA] at LT ⊢
 rw [hB]
 have hB' : (N != 95) = !B := by rw [← hB]; rfl
 obtain ⟨T, hT⟩ : ∃ T, boolB u = T := ⟨_, rfl⟩
 obtain ⟨P, hP⟩ : ∃ P, placeB u = P := ⟨_, rfl⟩
 obtain ⟨Q, hQ⟩ : ∃ Q, refOkB u = Q := ⟨_, rfl⟩
 have RR : ∀ w, LibW w → Ext w0 w → Calls Tryz.prog 91 #[.string (bs u)] w fun e w' => ∃ r c rf cf, e = .returned (.tuple #[refV r c rf cf, .bool Q]) ∧ Ext w w' := fun w LW X0 => (RR w LW X0).mono fun e w' ⟨ok, r, c, rf, cf, he, hr, hx⟩ => ⟨r, c, rf, cf, by rw [he, refOk_of hr, hQ], hx⟩
 rw [hT] at BL ⊢
 rw [hP] at PL ⊢
 rw [hQ]
 clear hA hT hP hQ
 have hE : (A = true ∧ B = true) ∨ (A = true ∧ B = false) ∨ (A = false ∧ B = true) ∨ (A = false ∧ B = false) := by cases A <;> cases B <;> simp
 by_cases h20 : 20 < n
 ·
  have e1 : decide (20 < n) = true := decide_eq_true h20
  rw [e1]
  have i1 : (20 : Int) < (n : Int) := by omega
  clear hW RR CP BL PL WL
  rcases hE with ⟨rfl, rfl⟩ | ⟨rfl, rfl⟩ | ⟨rfl, rfl⟩ | ⟨rfl, rfl⟩
  all_goals
   go_enter Tryz.func68, Tryz.ntmps68
   go_wp2_with fail
   refine (B0 _).mono ?_
   rintro e w1 ⟨rfl, rfl⟩
   go_wp2_with fail
   refine (LT _).mono ?_
   rintro e w2 ⟨rfl, rfl⟩
   go_wp2_with fail
   go_ret
   exact ⟨rfl, xr _⟩
 ·
  have e1 : decide (20 < n) = false := decide_eq_false h20
  rw [e1]
  have i1 : (n : Int) ≤ 20 := by omega
  by_cases hAB : A = false ∧ B = false
  ·
   obtain ⟨rfl, rfl⟩ := hAB
   clear hW RR CP BL PL WL hE
   go_enter Tryz.func68, Tryz.ntmps68
   go_wp2_with fail
   refine (B0 _).mono ?_
   rintro e w1 ⟨rfl, rfl⟩
   go_wp2_with fail
   refine (LT _).mono ?_
   rintro e w2 ⟨rfl, rfl⟩
   go_wp2_with fail
   go_ret
   exact ⟨rfl, xr _⟩
  ·
   have hE : (A = true ∧ B = true) ∨ (A = true ∧ B = false) ∨ (A = false ∧ B = true) := by rcases hE with h | h | h | h; exact .inl h; exact .inr (.inl h); exact .inr (.inr h); exact absurd h hAB
   clear hAB
   cases D
   ·
    have hk : ¬ k = n := fun h => by have := hW.1 h; cases this
    have k1 : ((k : Int) == (n : Int)) = false := by rw [beq_eq_false_iff_ne]; omega
    have k2 : ((k : Int) != (n : Int)) = true := by simp; omega
    clear hW hk RR CP BL PL
    rcases hE with ⟨rfl, rfl⟩ | ⟨rfl, rfl⟩ | ⟨rfl, rfl⟩
    all_goals
     go_enter Tryz.func68, Tryz.ntmps68
     go_wp2_with fail
     refine (B0 _).mono ?_
     rintro e w1 ⟨rfl, rfl⟩
     go_wp2_with fail
     refine (LT _).mono ?_
     rintro e w2 ⟨rfl, rfl⟩
     go_wp2_with fail
     refine (WL _).mono ?_
     rintro e w3 ⟨rfl, rfl⟩
     go_wp2_with fail
     go_ret
     exact ⟨rfl, xr _⟩
   ·
    obtain rfl : k = n := hW.2 rfl
    clear hW
    rcases hE with ⟨rfl, rfl⟩ | ⟨rfl, rfl⟩ | ⟨rfl, rfl⟩
    all_goals
     go_enter Tryz.func68, Tryz.ntmps68
     go_wp2_with fail
     refine (B0 _).mono ?_
     rintro e w1 ⟨rfl, rfl⟩
     go_wp2_with fail
     refine (LT _).mono ?_
     rintro e w2 ⟨rfl, rfl⟩
     go_wp2_with fail
     refine (WL _).mono ?_
     rintro e w3 ⟨rfl, rfl⟩
     go_wp2_with fail
     refine (CP _).mono ?_
     rintro e w4 ⟨rfl, e4⟩
     go_wp2_with fail
     refine (RR _ (LW.later e4) (xt X0 e4)).mono ?_
     rintro e w5 ⟨r, c, rf, cf, rfl, e5⟩
     have X5 := xt e4 e5
     clear e4 e5
     cases Q
     ·
      cases T
      ·
       go_wp2_with fail
       refine (BL _).mono ?_
       rintro e w6 ⟨rfl, h6⟩
       rw [h6]
       clear h6
       go_wp2_with fail
       refine (PL _).mono ?_
       rintro e w7 ⟨rfl, e7⟩
       go_wp2_with fail
       go_ret
       exact ⟨rfl, xt (xa X5 _) e7⟩
      ·
       go_wp2_with fail
       refine (BL _).mono ?_
       rintro e w6 ⟨rfl, h6⟩
       rw [h6]
       clear h6
       go_wp2_with fail
       go_ret
       exact ⟨rfl, xa X5 _⟩
     ·
      go_wp2_with fail
      go_ret
      exact ⟨rfl, xa X5 _⟩

theorem nameB_not {l : List UInt8} {c : UInt8} (h : c ∈ l) (hc : wordC c = false) : nameB l = false := by
 have hf : l.all wordC = false := by
  cases hq : l.all wordC with
  | false => rfl
  | true => have := (List.all_eq_true.1 hq) c h; rw [hc] at this; cases this
 unfold nameB
 rw [hf]
 simp

set_option maxRecDepth 8000 in
set_option maxHeartbeats 4000000 in
theorem nameS (l : List UInt8) (w : World) (hl : l.length ≤ 1048576) :
  Calls Tryz.prog 79 #[sV l] w fun e w' => e = .returned (.bool (nameB l)) ∧ Ext w w' := by
 have CP : ∀ w, Calls Tryz.prog 35 #[sV l] w fun e w' => e = .returned (sV (l.map upC)) ∧ Ext w w' := fun w => capsS l w (by omega)
 have hul : (l.map upC).length ≤ 1048576 := by simpa using hl
 have SC : ∀ w, Calls Tryz.prog 99 #[sV (l.map upC)] w fun e w' => e = .returned (.bool (placeB (l.map upC))) ∧ w' = w := fun w => secondS (l.map upC) w (by omega)
 have RR : ∀ w, Calls Tryz.prog 100 #[sV (l.map upC)] w fun e w' => ∃ r c rf cf, e = .returned (.tuple #[refV r c rf cf, .bool (refOkB (l.map upC))]) ∧ Ext w w' := fun w => (readRefS (l.map upC) w hul).mono fun e w' ⟨ok, r, c, rf, cf, he, hr, hx⟩ => ⟨r, c, rf, cf, by rw [he, refOk_of hr], hx⟩
 have NN : Hid (∀ c, c ∈ l → wordC c = false → nameB l = false) := fun c h hc => nameB_not h hc
 have eN : Hid (l.all wordC = true → nameB l = ((letZ ((l.getD 0 0).toNat : Int) || (((l.getD 0 0).toNat : Int) == 95)) && !decide (20 < l.length) && !refOkB (l.map upC) && !((l.map upC == [84, 82, 85, 69]) || (l.map upC == [70, 65, 76, 83, 69])) && !placeB (l.map upC))) := fun h => by unfold nameB boolB; rw [h, Bool.and_true]
 have eF : Hid ((letZ ((l.getD 0 0).toNat : Int) || (((l.getD 0 0).toNat : Int) == 95)) = false ∨ 20 < l.length → nameB l = false) := fun h => by
  unfold nameB
  rcases h with h | h
  ·
   rw [h]; rfl
  ·
   rw [decide_eq_true h]; simp
 have e0 : Hid (l.length = 0 → nameB l = false) := fun h => by
  have : l = [] := List.eq_nil_of_length_eq_zero h
  subst this
  unfold nameB
  rfl
 obtain ⟨R, hR⟩ : ∃ R, nameB l = R := ⟨_, rfl⟩
 rw [hR] at NN eN eF e0 ⊢
 clear hR
 obtain ⟨u, hu⟩ : ∃ u, l.map upC = u := ⟨_, rfl⟩
 rw [hu] at CP SC RR eN
 clear hu hul
 obtain ⟨P, hP⟩ : ∃ P, placeB u = P := ⟨_, rfl⟩
 obtain ⟨Q, hQ⟩ : ∃ Q, refOkB u = Q := ⟨_, rfl⟩
 rw [hP] at SC eN
 rw [hQ] at RR eN
 clear hP hQ
 obtain ⟨s, hs⟩ : ∃ s : ByteArray, (⟨l.toArray⟩ : ByteArray) = s := ⟨_, rfl⟩
 have hsl : s.data.toList = l := by rw [← hs]
 have hsz := size_ofL' hsl
 have CP : ∀ w, Calls Tryz.prog 35 #[.string s] w fun e w' => e = .returned (sV u) ∧ Ext w w' := by rw [← hs]; exact CP
 show Calls Tryz.prog 79 #[.string ⟨l.toArray⟩] w _
 rw [hs]
 clear hs
 obtain ⟨n, hn⟩ : ∃ n, l.length = n := ⟨_, rfl⟩
 have HN : Hid (l.length = n) := hn
 have HS : Hid (s.data.toList = l) := hsl
 rw [hn] at hl hsz eN eF e0
 clear hn hsl
 rcases Nat.eq_zero_or_pos n with h0 | h0
 ·
  have hr := e0.out h0
  subst hr
  subst h0
  clear NN eN eF e0 CP SC RR
  go_enter Tryz.func79, Tryz.ntmps79
  go_wp2_with fail
  go_ret
  exact ⟨rfl, xr _⟩
 ·
  clear e0
  have p0 : ¬ ((n : Int) < 1) := by omega
  by_cases h20 : 20 < n
  ·
   have hr := eF.out (.inr h20)
   subst hr
   have i1 : (20 : Int) < (n : Int) := by omega
   clear NN eN eF CP SC RR
   go_enter Tryz.func79, Tryz.ntmps79
   go_wp2_with fail
   go_ret
   exact ⟨rfl, xr _⟩
  ·
   have i1 : (n : Int) ≤ 20 := by omega
   have hks : 0 < s.size := by omega
   have hb0 := byte_atA HS.out hks
   have hd : decide (20 < n) = false := decide_eq_false h20
   rw [hd] at eN
   obtain ⟨N, hN⟩ : ∃ N : Int, ((l.getD 0 0).toNat : Int) = N := ⟨_, rfl⟩
   have hb : ((s[0]'hks).toNat : Int) = N := by rw [hb0]; exact hN
   rw [hN] at eN eF
   have LT := fun w => ltrS N w
   obtain ⟨A, hA⟩ : ∃ A, letZ N = A := ⟨_, rfl⟩
   obtain ⟨B, hB⟩ : ∃ B, (N == 95) = B := ⟨_, rfl⟩
   have hB' : (N != 95) = !B := by rw [← hB]; rfl
   rw [hA] at LT eN eF
   rw [hB] at eN eF
   clear hN hb0 hA hd
   by_cases hAB : A = false ∧ B = false
   ·
    obtain ⟨rfl, rfl⟩ := hAB
    have hr := eF.out (.inl rfl)
    subst hr
    clear NN eN eF CP SC RR
    go_enter Tryz.func79, Tryz.ntmps79
    go_wp2_with fail
    refine (LT _).mono ?_
    rintro e w2 ⟨rfl, rfl⟩
    go_wp2_with fail
    go_ret
    exact ⟨rfl, xr _⟩
   ·
    have hE : (A = true ∧ B = true) ∨ (A = true ∧ B = false) ∨ (A = false ∧ B = true) := by
     cases A <;> cases B <;> simp_all
    have eN' : Hid (l.all wordC = true → R = (!Q && !((u == [84, 82, 85, 69]) || (u == [70, 65, 76, 83, 69])) && !P)) := fun h => by
     rw [eN.out h]
     rcases hE with ⟨rfl, rfl⟩ | ⟨rfl, rfl⟩ | ⟨rfl, rfl⟩ <;> rfl
    clear hAB eN eF
    go_enter Tryz.func79, Tryz.ntmps79
    go_upto_region 1 with fail
    go_cut [25] (fun v wc => v = .bool false ∧ wc = w)
    case first =>
     rcases hE with ⟨rfl, rfl⟩ | ⟨rfl, rfl⟩ | ⟨rfl, rfl⟩
     all_goals
      go_wp2_with fail
      refine (LT _).mono ?_
      rintro e w2 ⟨rfl, h2⟩
      rw [h2]
      clear h2
      go_wp2_with fail
      go_meet
      case rel => exact ⟨by first | rfl | (congr 1; exact decide_eq_false (by omega)), rfl⟩
    case rest =>
     obtain ⟨rfl, hwc⟩ := hcut
     rw [hwc]
     clear hwc hE LT hb hB hB'
     go_wp2_with fail
     go_loop [3] (fun i => ∃ k : Nat, k ≤ n ∧ i = .int .i64 k ∧ Hid ((l.take k).all wordC = true)) (fun i => n - (intOf i).toNat)
     case atStart => exact ⟨0, by omega, rfl, by show _ = _; simp⟩
     case round =>
      obtain ⟨k, hk, rfl, HA⟩ := hrel
      by_cases hlt : k < n
      ·
       have hkk : k < s.size := by omega
       have hb0 := byte_atA HS.out hkk
       have htk := take_at (l := l) (i := k) (by rw [HN.out]; exact hlt)
       obtain ⟨c, hcc⟩ : ∃ c, l.getD k 0 = c := ⟨_, rfl⟩
       rw [hcc] at hb0 htk
       have hb : ((s[k]'hkk).toNat : Int) = (c.toNat : Int) := by rw [hb0]
       have i2 : (k : Int) < (n : Int) := by omega
       have W := fun w => wordS (c.toNat : Int) w
       obtain ⟨p, hp⟩ : ∃ p, wordC c = p := ⟨_, rfl⟩
       have hp' : wordZ (c.toNat : Int) = p := hp
       rw [hp'] at W
       obtain ⟨M, hM⟩ : ∃ M : Int, (c.toNat : Int) = M := ⟨_, rfl⟩
       rw [hM] at hb W
       cases p
       ·
        have hm : c ∈ l := by
         have : c ∈ l.take (k + 1) := by rw [htk]; simp
         exact List.mem_of_mem_take this
        have hr := NN.out c hm hp
        subst hr
        clear NN eN' HA hm hp hp' hM htk hcc hb0 CP SC RR
        go_wp2_with fail
        refine (W _).mono ?_
        rintro e w2 ⟨rfl, h2⟩
        rw [h2]
        clear h2
        go_wp2_with fail
        go_ret
        exact ⟨rfl, xr _⟩
       ·
        have HA2 : Hid ((l.take (k + 1)).all wordC = true) := by
         show _ = _
         rw [htk, List.all_append, HA.out, List.all_cons, hp]
         rfl
        clear HA hp hp' hM htk hcc hb0
        go_wp2_with fail
        refine (W _).mono ?_
        rintro e w2 ⟨rfl, h2⟩
        rw [h2]
        clear h2
        go_wp2_with fail
        go_round
        case rel => exact ⟨k + 1, by omega, by go_num, HA2⟩
        case measure => simp [intOf]; omega
      ·
       obtain rfl : k = n := by omega
       have hall : l.all wordC = true := by
        have := HA.out
        rw [List.take_of_length_le (by rw [HN.out]; omega)] at this
        exact this
       have hr := eN'.out hall
       subst hr
       clear hall eN' HA NN
       obtain ⟨t1, ht1⟩ : ∃ t, (u == [84, 82, 85, 69]) = t := ⟨_, rfl⟩
       obtain ⟨t2, ht2⟩ : ∃ t, (u == [70, 65, 76, 83, 69]) = t := ⟨_, rfl⟩
       have HT1 : Hid ((u == [84, 82, 85, 69]) = t1) := ht1
       have HT2 : Hid ((u == [70, 65, 76, 83, 69]) = t2) := ht2
       go_wp2_with fail
       refine (CP _).mono ?_
       rintro e w4 ⟨rfl, e4⟩
       cases t1
       ·
        cases t2
        ·
         go_wp2_with fail
         refine (SC _).mono ?_
         rintro e w5 ⟨rfl, h5⟩
         rw [h5]
         clear h5
         cases P
         ·
          go_wp2_with fail
          refine (RR _).mono ?_
          rintro e w6 ⟨r, c, rf, cf, rfl, e6⟩
          go_wp2_with fail
          go_ret
          exact ⟨by rw [HT1.out, HT2.out]; simp, xa (xt e4 e6) _⟩
         ·
          go_wp2_with fail
          go_ret
          exact ⟨by simp, e4⟩
        ·
         go_wp2_with fail
         go_ret
         exact ⟨by rw [HT1.out, HT2.out]; simp, e4⟩
       ·
        go_wp2_with fail
        go_ret
        exact ⟨by rw [HT1.out]; simp, e4⟩

/-- What a good decimal is. -/
def goodB (neg : Bool) (d x : Int) : Bool :=
 if d = 0 then (!neg && decide (x = 0)) else decide (0 < d ∧ d < 1000000000000000 ∧ d % 10 ≠ 0 ∧ -300 ≤ x ∧ x ≤ 300)

set_option maxHeartbeats 400000 in
theorem goodI (neg : Bool) (d x : Int) (w : World) (h1 : -9223372036854775808 ≤ d) (h2 : d ≤ 9223372036854775807) (hT : Tens w) :
  Calls Tryz.prog 63 #[.agg #[.bool neg, .int .i64 d, .int .i64 x]] w fun e w' => e = .returned (.bool (goodB neg d x)) ∧ Ext w w' := by
 have hT' := fun o => Lib.cell?_alloc_some o hT.at15
 clear hT
 go_enter Tryz.func63, Tryz.ntmps63
 go_wp2
 all_goals go_ret
 all_goals refine ⟨ret_bool ?_, ?_⟩
 all_goals first | exact x1 _ _ | skip
 all_goals clear hT'
 all_goals simp_all [goodB]
 all_goals (intros; omega)

set_option maxHeartbeats 400000 in
theorem goodS (neg : Bool) (d x : Int) (w : World) :
  Calls Tryz.prog 75 #[.agg #[.bool neg, .int .i64 d, .int .i64 x]] w fun e w' => e = .returned (.bool (goodB neg d x)) ∧ Ext w w' := by
 go_enter Tryz.func75, Tryz.ntmps75
 go_wp2
 all_goals go_ret
 all_goals refine ⟨ret_bool ?_, ?_⟩
 all_goals first | exact x1 _ _ | skip
 all_goals simp_all [goodB]
 all_goals (intros; omega)

set_option maxHeartbeats 400000 in
theorem toDec (neg : Bool) (d x : Int) (w : World) :
  Calls Tryz.prog 40 #[.agg #[.bool neg, .int .i64 d, .int .i64 x]] w fun e w' => e = .returned (.agg #[.bool neg, .int .i64 d, .int .i64 x]) ∧ Ext w w' := by
 go_enter Tryz.func40, Tryz.ntmps40
 go_wp2
 exact bodyPost_ret (v := .agg #[.bool neg, .int .i64 d, .int .i64 x]) (by simp [results, Tryz.results40, go_sem]) rfl ⟨rfl, xa (xa (x1 _ _) _) _⟩

abbrev exV (k : Int) (t : List UInt8) (neg : Bool) (d x r c : Int) (rf cf : Bool) (r2 c2 : Int) (rf2 cf2 : Bool) (m : Int) (s : Value) : Value := .agg #[.int .i64 k, sV t, .bool neg, .int .i64 d, .int .i64 x, .int .i64 r, .int .i64 c, .bool rf, .bool cf, .int .i64 r2, .int .i64 c2, .bool rf2, .bool cf2, .int .i64 m, s]

end Go.Proofs.YtcjjobciokfehaaGreatDoor

