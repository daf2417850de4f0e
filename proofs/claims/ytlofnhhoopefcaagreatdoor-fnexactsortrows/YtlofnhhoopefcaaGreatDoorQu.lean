/-
  Chapter 11: SortRows, of the specification.
-/
import Derived.Test.YtlofnhhoopefcaaGreatDoorQt
import Derived.Test.YtlofnhhoopefcaaGreatDoorQr
namespace Go.Proofs.YtlofnhhoopefcaaGreatDoor
open Go.RowKit

theorem lessR_up {l : List VT} {c : Nat} {ks : List YT} {i a : Nat} (h : a < i) : lessR l c ks i a = decide (lexK l c i a ks < 0) := by
 unfold lessR
 rw [decide_eq_false (show ¬ i < a by omega)]
 simp
theorem put_swap (A B : List Nat) (a i : Nat) : (((A ++ [a]) ++ i :: B).set (A.length + 1) a).set A.length i = A ++ i :: (a :: B) := by
 rw [List.append_assoc]
 simp
theorem put_at (A B : List Nat) (a i : Nat) : ((A ++ [a]) ++ i :: B)[A.length + 1]? = some i ∧ ((A ++ [a]) ++ i :: B)[A.length]? = some a := by
 rw [List.append_assoc]
 constructor <;> simp
set_option maxRecDepth 8000 in
set_option maxHeartbeats 4000000 in
theorem sortS (r c : Int) (v kv : Value) (l : List VT) (ks : List YT) (w : World) (h : ValsIn w v l) (hk : SortKeysIn w kv ks) (hl : l.length ≤ 1048576) (hkl : ks.length ≤ 1048576) (hr : ∀ e ∈ l, e.room) :
  Calls Tryz.prog 7 #[grV r c v, kv] w fun e w' => ∃ ans S, e = .returned ans ∧ AnsI w w' ans S ∧ SortOK r c l ks S := by
 have X0 := x1 w (.cells #[.int .i64 r, .int .i64 c, v] 32)
 have B0 := vec_made w [.int .i64 r, .int .i64 c, v] 32
 have S0 : (w.alloc (.cells #[.int .i64 r, .int .i64 c, v] 32)).heap.size = w.heap.size + 1 := by rw [World.size_alloc]
 change Vec (w.alloc (.cells #[.int .i64 r, .int .i64 c, v] 32)) _ _ at B0
 obtain ⟨u0, hu0⟩ : ∃ u, w.alloc (.cells #[.int .i64 r, .int .i64 c, v] 32) = u := ⟨_, rfl⟩
 rw [hu0] at X0 B0 S0
 have C0 := goodGS r c v l u0 (h.later X0) (by omega) (fun e he => (hr e he).1)
 have HV : Hid (ValsIn w v l ∧ SortKeysIn w kv ks) := ⟨h, hk⟩
 have HTE : Hid (∀ e ∈ l, e.room) := hr
 have HG : Hid (goodG r c l = true → (∃ R C : Nat, r = R ∧ c = C ∧ l.length = R * C ∧ R * C ≤ 2000 ∧ 1 ≤ R ∧ 1 ≤ C ∧ R ≤ 2000 ∧ C ≤ 2000) ∧ ∀ e ∈ l, e.good = true) := fun h => ⟨good_dims h, (goodG_all h).2.1⟩
 obtain ⟨pv, nv, rfl⟩ : ∃ p n, v = .slice p l.length n := by obtain ⟨p, n, h, _⟩ := h; exact ⟨p, n, h⟩
 obtain ⟨pk, nk, rfl, hck, hrow⟩ := hk
 have HROW : Hid (0 < ks.length → ∃ b o, pk = some ⟨b, o, none⟩ ∧ RowY w b o ks) := hrow
 have HS : Hid (sortG r c l ks = (goodG r c l && decide (ks.length ≤ 8) && !(ks.any fun k => decide (k.cl < 1 ∨ c < k.cl)))) := rfl
 have HOK : Hid (∀ S, (if sortG r c l ks then InOrder (lessR l c.toNat ks) r.toNat S else S = []) → SortOK r c l ks S) := fun S h => h
 obtain ⟨LN, hLN⟩ : ∃ LN, ks.length = LN := ⟨_, rfl⟩
 obtain ⟨N, hN⟩ : ∃ N, l.length = N := ⟨_, rfl⟩
 have HN : Hid (l.length = N ∧ ks.length = LN) := ⟨hN, hLN⟩
 obtain ⟨G, hG⟩ : ∃ G, goodG r c l = G := ⟨_, rfl⟩
 rw [hG, hLN] at HS
 rw [hG] at C0 HG
 rw [hN] at C0 B0 hu0 HV HG hl ⊢
 rw [hLN] at HV hkl hck HROW ⊢
 obtain ⟨a0, a1, a2⟩ := Vec.three B0
 clear h hrow hr hG hN hLN
 cases G
 ·
  have HF : Hid (sortG r c l ks = false) := by show _ = _; rw [HS.out]; rfl
  go_enter Tryz.func7, Tryz.ntmps7
  go_wp2_with (go_at_call 21; refine C0.mono ?_; rintro e w1 ⟨rfl, e1⟩)
  go_ret
  exact ⟨_, [], rfl, ⟨nums_nil _, fun h => absurd h (by simp), xt X0 e1⟩, HOK.out _ (by rw [HF.out]; rfl)⟩
 by_cases h8 : LN ≤ 8
 ·
  have f8 : ¬ (8 : Int) < (LN : Int) := by omega
  have f8' : decide ((LN : Int) > 8) = false := decide_eq_false (by omega)
  have f8'' : decide ((8 : Int) < (LN : Int)) = false := decide_eq_false (by omega)
  have f8n : decide (8 < LN) = false := decide_eq_false (by omega)
  obtain ⟨⟨R, C, rfl, rfl, hlen, h3, h4, h5, h6, h7⟩, hgd⟩ := HG.out rfl
  have HGD : Hid (∀ e ∈ l, e.good = true) := hgd
  have HLN : Hid (N = R * C) := hlen
  clear HG hgd hlen
  go_enter Tryz.func7, Tryz.ntmps7
  go_wp2_with (go_at_call 21; refine C0.mono ?_; rintro e w1 ⟨rfl, e1⟩)
  have HX1 : Hid (Ext u0 w1) := e1
  clear a0 a1 a2 C0 e1
  go_loopw [21] (fun s wr => ∃ k : Nat, s = .int .i64 k ∧ k ≤ LN ∧ Hid ((∀ j e, j < k → ks[j]? = some e → 1 ≤ e.cl ∧ e.cl ≤ (C : Int)) ∧ Ext u0 wr)) (fun s _ => LN - (intOf s).toNat)
  case atStart => exact ⟨0, rfl, by omega, fun j e hj => absurd hj (by omega), HX1.out⟩
  case round =>
   obtain ⟨k, rfl, hkL, HX⟩ := hrel
   by_cases hlt : k < LN
   ·
    have i2 : (k : Int) < (LN : Int) := by omega
    obtain ⟨⟨z, dn⟩, he⟩ : ∃ e, ks[k]? = some e := ⟨_, List.getElem?_eq_getElem (by rw [HN.out.2]; exact hlt)⟩
    obtain ⟨b, o, rfl, RW⟩ := HROW.out (by omega)
    obtain ⟨c0, c1⟩ := (RW.later (xt X0 HX.out.2)).all he
    simp only at c0 c1
    have HE : Hid (ks[k]? = some ⟨z, dn⟩) := he
    have K1 := vec_made wr [.int .i64 z, .bool dn] 48
    change Vec (wr.alloc (.cells #[.int .i64 z, .bool dn] 48)) _ _ at K1
    have E1 := x1 wr (.cells #[.int .i64 z, .bool dn] 48)
    have kz := (K1 0 _ rfl).1
    have b1 := ((B0.later (xt HX.out.2 E1)) 1 _ rfl).1
    have HBAD : (z < 1 ∨ (C : Int) < z) → Hid (sortG (R : Int) (C : Int) l ks = false) := fun hz => by
     show _ = _
     have : (ks.any fun k => decide (k.cl < 1 ∨ (C : Int) < k.cl)) = true := List.any_eq_true.2 ⟨_, List.mem_of_getElem? HE.out, decide_eq_true hz⟩
     rw [HS.out, this]
     simp
    clear he RW
    by_cases hz1 : z < 1
    ·
     have HF := HBAD (Or.inl hz1)
     have g1 : decide (z < 1) = true := decide_eq_true hz1
     go_wp2_with fail
     go_ret
     have HZ9 : AnsI w (wr.alloc (.cells #[.int .i64 z, .bool dn] 48)) (.slice none 0 0) [] ∧ SortOK (R : Int) (C : Int) l ks [] := ⟨⟨nums_nil _, fun h => absurd h (by simp), xt X0 (xt HX.out.2 E1)⟩, HOK.out _ (by rw [HF.out]; rfl)⟩
     first | exact ⟨_, rfl, [], HZ9⟩ | exact ⟨_, [], rfl, HZ9⟩ | exact ⟨[], HZ9⟩
    ·
     have g1 : decide (z < 1) = false := decide_eq_false hz1
     by_cases hz2 : (C : Int) < z
     ·
      have HF := HBAD (Or.inr hz2)
      have g2 : decide (z > (C : Int)) = true := decide_eq_true hz2
      go_wp2_with fail
      go_ret
      have HZ9 : AnsI w (wr.alloc (.cells #[.int .i64 z, .bool dn] 48)) (.slice none 0 0) [] ∧ SortOK (R : Int) (C : Int) l ks [] := ⟨⟨nums_nil _, fun h => absurd h (by simp), xt X0 (xt HX.out.2 E1)⟩, HOK.out _ (by rw [HF.out]; rfl)⟩
      first | exact ⟨_, rfl, [], HZ9⟩ | exact ⟨_, [], rfl, HZ9⟩ | exact ⟨[], HZ9⟩
     ·
      have g2 : decide (z > (C : Int)) = false := decide_eq_false hz2
      have HN2 : Hid ((∀ j e, j < k + 1 → ks[j]? = some e → 1 ≤ e.cl ∧ e.cl ≤ (C : Int)) ∧ Ext u0 (wr.alloc (.cells #[.int .i64 z, .bool dn] 48))) := ⟨fun j e hj he => by
       by_cases hjk : j = k
       ·
        subst hjk
        rw [HE.out] at he
        cases he
        exact ⟨by show 1 ≤ z; omega, by show z ≤ (C : Int); omega⟩
       ·
        exact HX.out.1 j e (by omega) he, xt HX.out.2 E1⟩
      go_wp2_with fail
      go_roundw
      case rel => exact ⟨k + 1, by go_num, by omega, HN2⟩
      case measure => simp [intOf]; omega
   ·
    obtain rfl : LN = k := by omega
    have i2 : ¬ (LN : Int) < (LN : Int) := by omega
    have HKO : Hid (KeysOK C ks) := fun e he => by
     obtain ⟨j, hj, rfl⟩ := List.getElem_of_mem he
     exact HX.out.1 j _ (by rw [← HN.out.2]; exact hj) (List.getElem?_eq_getElem hj)
    have HF : Hid (sortG (R : Int) (C : Int) l ks = true) := by
     show _ = _
     have : (ks.any fun k => decide (k.cl < 1 ∨ (C : Int) < k.cl)) = false := by
      rw [List.any_eq_false]
      intro e he
      have := HKO.out e he
      simp only [decide_eq_true_eq]
      omega
     rw [HS.out, this, decide_eq_true h8]
     rfl
    have HST : Hid (Strict (lessR l C ks)) := lessR_strict HGD.out _ _
    have HCR : Hid (∀ W i a, Ext u0 W → i < R → a < R → a < i → Calls Tryz.prog 22 #[grV R C (.slice pv N nv), .slice pk LN nk, numV i, numV a] W fun e w' => e = .returned (.bool (lessR l C ks i a)) ∧ Ext W w') := fun W i a hW hi ha hai => by
     rw [lessR_up hai]
     have hYW := xt X0 hW
     exact rowAheadS R C _ _ l ks i a W (HV.out.1.later hYW) (HV.out.2.later hYW) (by rw [HN.out.1, HLN.out]) (by rw [HN.out.1, HLN.out]; exact h3) hi ha HKO.out (by rw [HN.out.2]; exact h8) h7 h6 HTE.out HGD.out
    have HX2 : Hid (Ext u0 wr) := HX.out.2
    clear HX HS HGD HTE HLN HKO
    go_wp2_with fail
    go_loopw [7, 8] (fun s7 s8 wr => ∃ (i n2 c2 : Nat) (p2 : Option Addr), s8 = .int .i64 i ∧ i ≤ R ∧ s7 = .slice p2 n2 c2 ∧ Hid (∃ rows, OwnI wr (w.heap.size + 1) (.slice p2 n2 c2) rows ∧ InOrder (lessR l C ks) i rows ∧ Ext u0 wr)) (fun _ s8 _ => R - (intOf s8).toNat)
    case atStart => exact ⟨0, 0, 0, none, rfl, by omega, rfl, [], ownI_nil _ _, InOrder.nil _, HX2.out⟩
    case round =>
     clear HX2
     obtain ⟨i, n2, c2, p2, rfl, hiR, rfl, HO⟩ := hrel
     obtain ⟨wo, hwo⟩ : ∃ wo, wo = wr := ⟨_, rfl⟩
     subst hwo
     have Y0 : Ext u0 wo := by obtain ⟨_, _, _, h⟩ := HO.out; exact h
     have a0 := ((B0.later Y0) 0 _ rfl).1
     by_cases hlt : i < R
     ·
      have j2 : (i : Int) < (R : Int) := by omega
      obtain ⟨rows, q1, q2, q3⟩ := HO.out
      have OQ : Hid (OwnI wo (w.heap.size + 1) (.slice p2 n2 c2) rows ∧ InOrder (lessR l C ks) i rows) := ⟨q1, q2⟩
      have lk : rows.length = i := q2.len
      have hs1 : w.heap.size + 1 ≤ wo.heap.size := by have := Y0.size; omega
      obtain ⟨inf, hi, hz, hz1, hz2⟩ := infoI
      clear q1 q2 q3 HO
      go_wp2_with (at_builtin; refine wpList_append_own _ rfl _ _ 28 rfl (w.heap.size + 1) 3 inf (.int .i64 0) 1 8 Tryz.underlying28 hi hz hz1 hz2 rfl (by decide) _ _ _ rfl (OQ.out.1.alloc _) ⟨wo.heap.size, 0, none⟩ 1 1 [.int .i64 i] rfl rfl (World.news_of_block (heap_alloc_new wo (.cells [.int .i64 (i : Int)].toArray 3))) (by simp [Value.oneCell']) (by rw [lk]; simp only [maxLen]; omega) (by rw [lk]; omega) (by simp; omega) ?_)
      intro v7 wC ownC gC _
      have lb := ownI_block OQ.out.1
      have A1 := x1 wo (.cells [.int .i64 (i : Int)].toArray 3)
      have YC : Ext u0 wC := (xt Y0 A1).grown gC (xt Y0 A1).size (fun z hz => by have := lb z hz; omega)
      obtain ⟨g, c7, rfl⟩ : ∃ g c, v7 = .slice (some ⟨g, 0, none⟩) (i + 1) c := by
       rcases ownC.2 with ⟨_, h2⟩ | ⟨g, c, _, h2, _⟩
       ·
        omega
       ·
        exact ⟨g, c, by first | exact h2 | (rw [h2, lk])⟩
      have NC : OwnN wC (w.heap.size + 1) g (i + 1) c7 (rows ++ i :: []) := by
       show World.ownsRow _ _ _ _ _ _ _
       rw [List.map_append]
       have := ownC
       first | exact this | (rw [lk] at this; exact this)
      have HP0 : Hid (OwnN wC (w.heap.size + 1) g (i + 1) c7 (rows ++ i :: []) ∧ Putting (lessR l C ks) i rows [] ∧ Ext u0 wC) := ⟨NC, Putting.start OQ.out.2, YC⟩
      obtain ⟨M, hM⟩ : ∃ M, i + 1 = M := ⟨_, rfl⟩
      rw [hM] at HP0 ⊢
      clear ownC gC lb A1 YC NC OQ hi hz hz1 hz2 a0
      go_wp2_with fail
      go_loopw [9] (fun s9 wi => ∃ (k' : Nat) (A B : List Nat), s9 = .int .i64 k' ∧ k' ≤ i ∧ A.length = k' ∧ Hid (OwnN wi (w.heap.size + 1) g M c7 (A ++ i :: B) ∧ Putting (lessR l C ks) i A B ∧ Ext u0 wi)) (fun s9 _ => (intOf s9).toNat)
      case atStart => exact ⟨i, rows, [], rfl, Nat.le_refl _, lk, HP0⟩
      case round =>
       clear HP0
       obtain ⟨k', A, B, rfl, hki, hAk, HI⟩ := hrel
       obtain ⟨k, rfl⟩ : ∃ k, k = k' := ⟨_, rfl⟩
       have Y1 := HI.out.2.2
       have HDN : (∀ A' a, A = A' ++ [a] → lessR l C ks i a = false) → ∀ W, Ext wr W → Hid (∃ rows, OwnI W (w.heap.size + 1) (.slice (some ⟨g, 0, none⟩) M c7) rows ∧ InOrder (lessR l C ks) M rows ∧ Ext u0 W) := fun hd W hW => by
        refine ⟨A ++ i :: B, ?_, by rw [← hM]; exact HI.out.2.1.done HST.out hd, xt Y1 hW⟩
        have o := ownN_later HI.out.1 hW
        have ln := ownN_len o
        show World.ownsRow _ _ _ _ _ _ _
        rw [ln]
        exact o
       by_cases hk0 : k = 0
       ·
        subst hk0
        obtain rfl : A = [] := List.eq_nil_of_length_eq_zero hAk
        have HF2 := HDN (fun A' a e => by simp at e)
        have HF3 : Hid (∀ W, Ext wr W → Hid (∃ rows, OwnI W (w.heap.size + 1) (.slice (some ⟨g, 0, none⟩) M c7) rows ∧ InOrder (lessR l C ks) M rows ∧ Ext u0 W)) := HF2
        have t1 : decide ((0 : Int) > 0) = false := by decide
        clear HDN HI HF2
        go_wp2_with fail
        go_quiet (fail)
        have E : Ext wr (wr.drewN nq) := xdNv (xr _) nq
        generalize wr.drewN nq = wq at E
        have HN3 := HF3.out wq E
        go_wp2_with fail
        go_roundw
        case rel => exact ⟨M, M, c7, some ⟨g, 0, none⟩, by rw [← hM]; go_num, by omega, rfl, HN3⟩
        case measure => simp [intOf]; omega
       ·
        obtain ⟨A', a, rfl⟩ : ∃ A' a, A = A' ++ [a] := by
         rcases List.eq_nil_or_concat A with rfl | ⟨A', a, e⟩
         ·
          exact absurd hAk.symm (by simpa using hk0)
         ·
          exact ⟨A', a, by simpa using e⟩
        obtain ⟨k1, hk1⟩ : ∃ k1, A'.length = k1 := ⟨_, rfl⟩
        have kk : k = k1 + 1 := by rw [← hAk, List.length_append, hk1]; rfl
        have hai : a < i := List.mem_range.1 (HI.out.2.1.all.subset (by simp))
        have CR : Hid (∀ W, Ext wr W → Calls Tryz.prog 22 #[grV R C (.slice pv N nv), .slice pk LN nk, numV i, numV a] W fun e w' => e = .returned (.bool (lessR l C ks i a)) ∧ Ext W w') := fun W hW => HCR.out W i a (xt Y1 hW) hlt (by omega) hai
        have V1 := ownN_vec HI.out.1
        have pa := put_at A' B a i
        rw [hk1] at pa
        have a3 := (V1 k (numV i) (by rw [List.getElem?_map, kk, pa.1]; rfl)).1
        have a4 := (V1 k1 (numV a) (by rw [List.getElem?_map, pa.2]; rfl)).1
        obtain ⟨a0, a1, a2⟩ := Vec.three (B0.later Y1)
        obtain ⟨Z, hZ⟩ : ∃ Z, lessR l C ks i a = Z := ⟨_, rfl⟩
        have HZ : Hid (lessR l C ks i a = Z) := hZ
        rw [hZ] at CR
        have HSW : Hid (∀ W, Ext wr W → OwnN ((W.setCell ⟨g, k, none⟩ (numV a)).setCell ⟨g, k1, none⟩ (numV i)) (w.heap.size + 1) g M c7 (A' ++ i :: (a :: B)) ∧ Ext u0 ((W.setCell ⟨g, k, none⟩ (numV a)).setCell ⟨g, k1, none⟩ (numV i))) := fun W hW => by
         have o := ownN_set (ownN_set (ownN_later HI.out.1 hW) k a) k1 i
         have gb := ownN_base HI.out.1
         refine ⟨?_, xset (xset (xt Y1 hW) (p := ⟨g, k, none⟩) (by show _ ≤ g; omega) _) (p := ⟨g, k1, none⟩) (by show _ ≤ g; omega) _⟩
         have ps := put_swap A' B a i
         rw [hk1, ← kk] at ps
         rw [ps] at o
         exact o
        have HVV : Hid (Vec wr g (((A' ++ [a]) ++ i :: B).map numV) ∧ ((A' ++ [a]) ++ i :: B)[k]? = some i ∧ ((A' ++ [a]) ++ i :: B)[k1]? = some a) := ⟨V1, by rw [kk]; exact pa.1, pa.2⟩
        have HPT : Hid (Putting (lessR l C ks) i (A' ++ [a]) B) := HI.out.2.1
        have HDD : Hid ((∀ A2 a2, A' ++ [a] = A2 ++ [a2] → lessR l C ks i a2 = false) → ∀ W, Ext wr W → Hid (∃ rows, OwnI W (w.heap.size + 1) (.slice (some ⟨g, 0, none⟩) M c7) rows ∧ InOrder (lessR l C ks) M rows ∧ Ext u0 W)) := HDN
        have t1 : (0 : Int) < (k : Int) := by omega
        have t2 : (k : Int) > 0 := by omega
        have t5 : decide ((k : Int) > 0) = true := decide_eq_true t2
        have t6 : decide ((0 : Int) < (k : Int)) = true := decide_eq_true t1
        have t7 : 0 < k := by omega
        have t8 : decide (0 < k) = true := decide_eq_true t7
        have t3 : (k : Int) < (M : Int) := by omega
        have t4 : (k1 : Int) < (M : Int) := by omega
        have iw : IntKind.i64.wrap ((k : Int) - 1) = (k1 : Int) := by rw [IntKind.wrap_i64]; omega
        have HKK : Hid (k = k1 + 1 ∧ A'.length = k1) := ⟨kk, hk1⟩
        clear HDN HI V1 pa hZ kk hk1 hAk hk0
        go_wp2_with fail
        go_region_held3 (fun w' => w'.cell? ⟨w.heap.size, 0, none⟩ = some (.int .i64 R) ∧ w'.cell? ⟨w.heap.size, 1, none⟩ = some (.int .i64 C) ∧ w'.cell? ⟨w.heap.size, 2, none⟩ = some (.slice pv N nv) ∧ w'.cell? ⟨g, k, none⟩ = some (.int .i64 i) ∧ w'.cell? ⟨g, k1, none⟩ = some (.int .i64 a)) (go_keep)
          (first
           | (go_at_call 22; refine (CR.out _ (xd (xr _))).mono ?_; rintro e w' ⟨rfl, E⟩; have Y := xt (xd (xr _)) E; have r0 := cell_later Y a0; have r1 := cell_later Y a1; have r2 := cell_later Y a2; have r3 := cell_later Y a3; have r4 := cell_later Y a4))
        clear iw a0 a1 a2 a3 a4 r0 r1 r2 r3 r4
        cases Z
        ·
         have HN3 := HDD.out (fun A2 a2 e => by
          have : a = a2 := by simpa using (List.append_inj' e rfl).2
          rw [← this]; exact HZ.out) w' Y
         clear HDD HSW
         go_wp2_with fail
         go_roundw
         case rel => exact ⟨M, M, c7, some ⟨g, 0, none⟩, by rw [← hM]; go_num, by omega, rfl, HN3⟩
         case measure => simp [intOf]; omega
        ·
         have b1 : (k : Int) - 1 = (k1 : Int) := by have := HKK.out.1; omega
         have VV := HVV.out.1.later Y
         obtain ⟨m3, f3⟩ := VV k (numV i) (by rw [List.getElem?_map, HVV.out.2.1]; rfl)
         obtain ⟨m4, f4⟩ := VV k1 (numV a) (by rw [List.getElem?_map, HVV.out.2.2]; rfl)
         have kne : k ≠ k1 := by have := HKK.out.1; omega
         have m5 : (w'.setCell ⟨g, k, none⟩ (numV a)).cell? ⟨g, k1, none⟩ = some (numV a) := by rw [World.cell?_setCell_other _ _ _ _ (fun e => kne (by have := congrArg Addr.off e; simpa using this))]; exact m4
         have HN3 := HSW.out w' Y
         obtain ⟨w9, hw9⟩ : ∃ w9, (w'.setCell ⟨g, k, none⟩ (numV a)).setCell ⟨g, k1, none⟩ (numV i) = w9 := ⟨_, rfl⟩
         rw [hw9] at HN3
         have HN4 : Hid (OwnN w9 (w.heap.size + 1) g M c7 (A' ++ i :: (a :: B)) ∧ Putting (lessR l C ks) i A' (a :: B) ∧ Ext u0 w9) := ⟨HN3.1, HPT.out.step HZ.out, HN3.2⟩
         clear HN3 HSW HDD VV HVV HPT
         go_wp2_with fail
         go_roundw
         case rel => exact ⟨k1, A', a :: B, rfl, by have := HKK.out.1; omega, HKK.out.2, HN4⟩
         case measure => simp [intOf]; have := HKK.out.1; omega
     ·
      obtain rfl : i = R := by omega
      have j2 : ¬ (i : Int) < (i : Int) := by omega
      go_wp2_with fail
      go_ret
      obtain ⟨rows, q1, q2, q3⟩ := HO.out
      refine ⟨_, rfl, rows, ⟨ownI_nums q1, fun _ z hz => by have := ownI_block q1 z hz; omega, xt X0 q3⟩, HOK.out _ ?_⟩
      rw [HF.out, if_pos rfl]
      exact q2
 ·
  have HF : Hid (sortG r c l ks = false) := by show _ = _; rw [HS.out, decide_eq_false h8]; rfl
  have f8 : (8 : Int) < (LN : Int) := by omega
  have f8' : decide ((LN : Int) > 8) = true := decide_eq_true (by omega)
  go_enter Tryz.func7, Tryz.ntmps7
  go_wp2_with (go_at_call 21; refine C0.mono ?_; rintro e w1 ⟨rfl, e1⟩)
  go_ret
  exact ⟨_, [], rfl, ⟨nums_nil _, fun h => absurd h (by simp), xt X0 e1⟩, HOK.out _ (by rw [HF.out]; rfl)⟩

end Go.Proofs.YtlofnhhoopefcaaGreatDoor

