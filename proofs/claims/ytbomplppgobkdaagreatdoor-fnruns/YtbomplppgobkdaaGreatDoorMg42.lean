/-
  Several texts in one: Qn, Qo, Qq.
-/
import Derived.Test.YtbomplppgobkdaaGreatDoorMg41
import Derived.Test.YtbomplppgobkdaaGreatDoorMg30
import Derived.Test.YtbomplppgobkdaaGreatDoorMg37
namespace Go.Proofs.YtbomplppgobkdaaGreatDoor
open Go.RowKit

abbrev lessK (K : Nat → Nat → Int) (x y : Nat) : Bool := decide (K x y < 0)
abbrev fnB (fn : Nat) (rc : Value) : Value := .func (.func fn) #[rc] #[]
set_option maxRecDepth 8000 in
set_option maxHeartbeats 4000000 in
theorem putI (w0 : World) (fn : Nat) (rc : Value) (n : Nat) (K : Nat → Nat → Int) (O : Orders w0 fn #[rc] n K) (S : Strict (lessK K)) (hb : Nat) (items : Value) (h : List Nat) (x : Nat) (w : World) (X : Ext w0 w) (hb0 : w0.heap.size ≤ hb)
    (H : Vec w hb [items, fnB fn rc]) (OI : OwnI w (hb + 1) items h) (HO : HeapOK (lessK K) h) (hn : ∀ y ∈ h, y < n) (hx : x < n) (hl : h.length ≤ 2000) :
    Calls Tryz.prog 26 #[.pointer (some ⟨hb, 0, none⟩), numV x] w fun e w' => e = .returned (.tuple #[]) ∧ (∃ items' h', Vec w' hb [items', fnB fn rc] ∧ OwnI w' (hb + 1) items' h' ∧ HeapOK (lessK K) h' ∧ h'.Perm (x :: h)) ∧ Ext w0 w' := by
  have ltb : hb < w.heap.size := vec_lt H (by simp)
  have HOI : Hid (OwnI w (hb + 1) items h) := OI
  have HHO : Hid (HeapOK (lessK K) h ∧ ∀ y ∈ h, y < n) := ⟨HO, hn⟩
  have HC : Hid (Orders w0 fn #[rc] n K ∧ Strict (lessK K)) := ⟨O, S⟩
  obtain ⟨p0, c0, rfl, _⟩ := ownI_slice OI
  obtain ⟨m, hm⟩ : ∃ m, h.length = m := ⟨_, rfl⟩
  have HM : Hid (h.length = m) := hm
  rw [hm] at hl H HOI
  have a0 := (H 0 _ rfl).1
  obtain ⟨inf, hi, hz, hz1, hz2⟩ := infoI
  clear OI HO hn O S hm
  go_enter Tryz.func26, Tryz.ntmps26
  go_wp2_with (at_builtin; refine wpList_append_own _ rfl _ _ 28 rfl (hb + 1) 3 inf (.int .i64 0) 1 8 Tryz.underlying28 hi hz hz1 hz2 rfl (by decide) _ _ _ rfl (HOI.out.alloc _) ⟨w.heap.size, 0, none⟩ 1 1 [.int .i64 x] rfl rfl (World.news_of_block (heap_alloc_new w (.cells [.int .i64 (x : Int)].toArray 3))) (by simp [Value.oneCell']) (by rw [HM.out]; simp only [maxLen]; omega) (by rw [HM.out]; omega) (by simp; omega) ?_)
  intro v7 wC ownC gC _
  have lb := ownI_block HOI.out
  have XC : Ext w0 wC := (xa X _).grown gC (xa X _).size (fun r hr => by have := lb r hr; omega)
  have VC : Vec wC hb [.slice p0 m c0, fnB fn rc] := vec_keep (H.later (x1 w _)) gC (fun e => by have := lb hb e.symm; omega)
  have OC : OwnI wC (hb + 1) v7 (h ++ [x]) := by
    show World.ownsRow _ _ _ _ _ _ _
    rw [List.map_append, List.length_append]
    exact ownC
  have hn7 : (h ++ [x]).length = m + 1 := by rw [List.length_append, HM.out]; rfl
  obtain ⟨g, c7, rfl⟩ : ∃ g c, v7 = .slice (some ⟨g, 0, none⟩) (m + 1) c := by
    rcases OC.2 with ⟨_, h2⟩ | ⟨g, c, _, h2, _⟩
    · omega
    · exact ⟨g, c, by rw [h2, hn7]⟩
  have q0 := (VC 0 _ rfl).1
  have f0 := (VC 0 _ rfl).2
  obtain ⟨M, hM⟩ : ∃ M, m + 1 = M := ⟨_, rfl⟩
  have OD0 : OwnN wC (hb + 1) g (m + 1) c7 (h ++ [x]) := by have := OC; rw [show OwnI wC (hb + 1) (.slice (some ⟨g, 0, none⟩) (m + 1) c7) (h ++ [x]) = wC.ownsRow (hb + 1) 3 1 (.slice (some ⟨g, 0, none⟩) (m + 1) c7) (h ++ [x]).length ((h ++ [x]).map numV) from rfl, hn7] at this; exact this
  rw [hM] at OD0 ⊢
  have HD : Hid (UpOK (lessK K) (h ++ [x]) m ∧ OwnN (wC.setCell ⟨hb, 0, none⟩ (.slice (some ⟨g, 0, none⟩) M c7)) (hb + 1) g M c7 (h ++ [x]) ∧ (h ++ [x]).Perm (x :: h) ∧ Vec (wC.setCell ⟨hb, 0, none⟩ (.slice (some ⟨g, 0, none⟩) M c7)) hb [.slice (some ⟨g, 0, none⟩) M c7, fnB fn rc] ∧ Ext w0 (wC.setCell ⟨hb, 0, none⟩ (.slice (some ⟨g, 0, none⟩) M c7))) :=
    ⟨by have := UpOK.start HHO.out.1 x; rw [HM.out] at this; exact this, ownN_far OD0 (p := ⟨hb, 0, none⟩) (Nat.lt_succ_self _) _, List.perm_append_singleton _ _, VC.put 0 (by simp) _, xset XC (p := ⟨hb, 0, none⟩) hb0 _⟩
  obtain ⟨wD, hwD⟩ : ∃ wD, wC.setCell ⟨hb, 0, none⟩ (.slice (some ⟨g, 0, none⟩) M c7) = wD := ⟨_, rfl⟩
  rw [hwD] at HD
  have d0 := (HD.out.2.2.2.1 0 _ rfl).1
  have e4 : (M : Int) - 1 = (m : Int) := by omega
  clear ownC gC lb XC VC OC OD0 hi hz hz1 hz2 hn7 a0
  go_wp2_with fail
  clear q0 f0 d0 hwD
  go_loopw [4] (fun s wr => ∃ (p : Nat) (q : List Nat), s = .int .i64 p ∧ p ≤ m ∧ Hid (UpOK (lessK K) q p ∧ OwnN wr (hb + 1) g M c7 q ∧ q.Perm (x :: h) ∧ Vec wr hb [.slice (some ⟨g, 0, none⟩) M c7, fnB fn rc] ∧ Ext w0 wr)) (fun s _ => (intOf s).toNat)
  case atStart => exact ⟨m, _, rfl, Nat.le_refl _, HD⟩
  case round =>
    obtain ⟨p, q, rfl, hp, HQ⟩ := hrel
    have hql := ownN_len HQ.out.2.1
    have HE : (lessK K (nth q p) (nth q ((p - 1) / 2)) = false ∨ p = 0) → Hid ((∃ items' h', Vec wr hb [items', fnB fn rc] ∧ OwnI wr (hb + 1) items' h' ∧ HeapOK (lessK K) h' ∧ h'.Perm (x :: h)) ∧ Ext w0 wr) := fun hd =>
      ⟨⟨_, q, HQ.out.2.2.2.1, by have := HQ.out.2.1; rw [← hql] at this ⊢; exact this, HQ.out.1.done (hd.symm), HQ.out.2.2.1⟩, HQ.out.2.2.2.2⟩
    by_cases hp0 : p = 0
    · subst hp0
      have HF := HE (Or.inr rfl)
      clear HE HQ hql
      go_wp2_with fail
      exact bodyPost_end (results_none rfl _ _ _) rfl ⟨rfl, HF.out⟩
    · obtain ⟨p1, hp1⟩ : ∃ p1, p - 1 = p1 := ⟨_, rfl⟩
      obtain ⟨r, hr⟩ : ∃ r, p1 / 2 = r := ⟨_, rfl⟩
      have b1 : (p : Int) - 1 = (p1 : Int) := by omega
      have b2 : (p1 : Int).tdiv 2 = (r : Int) := by rw [Int.tdiv_eq_ediv_of_nonneg (by omega)]; omega
      have b3 : (p : Int) > 0 := by omega
      have b3' : (0 : Int) < (p : Int) := by omega
      have rp : r < p := by omega
      have CH := isAheadI w0 fn rc n K HC.out.1 hb g c7 q p r wr HQ.out.2.2.2.2 (by rw [hql]; exact HQ.out.2.2.2.1) (ownN_vec HQ.out.2.1) (fun y hy => by
        rcases List.mem_cons.1 (HQ.out.2.2.1.subset hy) with rfl | h2
        · exact hx
        · exact HHO.out.2 y h2) (by omega) (by omega)
      have HPR : Hid ((p - 1) / 2 = r) := by show _ = _; rw [hp1, hr]
      obtain ⟨Z, hZ⟩ : ∃ Z, decide (K (nth q p) (nth q r) < 0) = Z := ⟨_, rfl⟩
      rw [hZ] at CH
      have HZ : Hid (lessK K (nth q p) (nth q r) = Z) := hZ
      clear hp1 hr hZ
      cases Z
      · have HF := HE (Or.inl (by rw [HPR.out]; exact HZ.out))
        clear HE HQ hql
        go_wp2_with (go_at_call 54; refine CH.mono ?_; rintro e w1 ⟨rfl, e1⟩)
        exact bodyPost_end (results_none rfl _ _ _) rfl ⟨rfl, by obtain ⟨⟨i2, h2, k1, k2, k3, k4⟩, k5⟩ := HF.out; exact ⟨⟨i2, h2, k1.later e1, ownI_later k2 e1, k3, k4⟩, xt k5 e1⟩⟩
      · have CW : Hid (∀ W, Ext wr W → Calls Tryz.prog 55 #[.pointer (some ⟨hb, 0, none⟩), numV p, numV r] W fun e w' => e = .returned (.tuple #[]) ∧ OwnN w' (hb + 1) g M c7 (swapL q p r) ∧ W.grownBy w' (some g)) := fun W hW =>
          swapI hb g c7 _ q p r W M (HQ.out.2.2.2.1.later hW) (hb + 1) (ownN_later HQ.out.2.1 hW) (by omega) (by omega) (by omega)
        have gb := ownN_base HQ.out.2.1
        have HU : Hid (UpOK (lessK K) (swapL q p r) r ∧ (swapL q p r).Perm (x :: h)) := by
          refine ⟨?_, (swap_perm (by omega) (by omega)).trans HQ.out.2.2.1⟩
          have := UpOK.step HC.out.2 HQ.out.1 (by omega) (by omega) (by rw [HPR.out]; exact HZ.out)
          rw [HPR.out] at this
          exact this
        clear HE
        go_wp2_with (first
          | (go_at_call 54; refine CH.mono ?_; rintro e w1 ⟨rfl, e1⟩)
          | (go_at_call 55; refine (CW.out w1 e1).mono ?_; rintro e w2 ⟨rfl, o2, g2⟩))
        have HN : Hid (UpOK (lessK K) (swapL q p r) r ∧ OwnN w2 (hb + 1) g M c7 (swapL q p r) ∧ (swapL q p r).Perm (x :: h) ∧ Vec w2 hb [.slice (some ⟨g, 0, none⟩) M c7, fnB fn rc] ∧ Ext w0 w2) :=
          ⟨HU.out.1, o2, HU.out.2, vec_keep (HQ.out.2.2.2.1.later e1) g2 (fun e => by cases e; omega), (xt HQ.out.2.2.2.2 e1).grown g2 (xt HQ.out.2.2.2.2 e1).size (fun z hz => by cases hz; omega)⟩
        go_roundw
        case rel => exact ⟨r, _, rfl, by omega, HN⟩
        case measure => simp [intOf]; omega

set_option maxRecDepth 8000 in
set_option maxHeartbeats 4000000 in
theorem swapI0 (hb g cap : Nat) (fv : Value) (h : List Nat) (i : Nat) (w : World) (N : Nat) (H : Vec w hb [.slice (some ⟨g, 0, none⟩) N cap, fv]) (base : Nat) (OI : OwnN w base g N cap h) (hi : i < N) :
    Calls Tryz.prog 55 #[.pointer (some ⟨hb, 0, none⟩), numV i, numV i] w fun e w' => e = .returned (.tuple #[]) ∧ OwnN w' base g N cap (swapL h i i) ∧ w.grownBy w' (some g) := by
  have V := ownN_vec OI
  have hN := ownN_len OI
  have a0 := (H 0 _ rfl).1
  obtain ⟨x, hx⟩ : ∃ x, nth h i = x := ⟨_, rfl⟩
  obtain ⟨ci, fi⟩ := V i (numV x) (by rw [List.getElem?_map, nth_get (by omega), hx]; rfl)
  have HV : Hid (∀ W, w.grownBy W (some g) → OwnN ((w.setCell ⟨g, i, none⟩ (numV x)).setCell ⟨g, i, none⟩ (numV x)) base g N cap (swapL h i i)) := fun _ _ => by
    have := ownN_set (ownN_set OI i x) i x
    unfold swapL
    rw [hx]
    exact this
  have i1 : (i : Int) < (N : Int) := by omega
  clear H V hx hN OI
  go_enter Tryz.func55, Tryz.ntmps55
  go_wp2_with fail
  go_region
  go_wp2
  exact bodyPost_end (results_none rfl _ _ _) rfl ⟨rfl, ownN_later (HV.out _ (grown_refl w _)) (xd (xr _)), grown_ext (grown_set (grown_set (grown_refl w _) _) _) (xd (xr _))⟩
/-- Nothing else has turned. -/
def Only2 (hb g : Nat) (w w' : World) : Prop := w.heap.size ≤ w'.heap.size ∧ ∀ b, b < w.heap.size → b ≠ hb → b ≠ g → w'.heap[b]? = w.heap[b]?
theorem Only2.refl (hb g : Nat) (w : World) : Only2 hb g w w := ⟨Nat.le_refl _, fun _ _ _ _ => rfl⟩
theorem Only2.ext {hb g : Nat} {w a b : World} (h : Only2 hb g w a) (e : Ext a b) : Only2 hb g w b := ⟨Nat.le_trans h.1 e.size, fun z h1 h2 h3 => (e.block z (Nat.lt_of_lt_of_le h1 h.1)).trans (h.2 z h1 h2 h3)⟩
theorem Only2.grown {hb g : Nat} {w a b : World} (h : Only2 hb g w a) (e : a.grownBy b (some g)) : Only2 hb g w b := ⟨Nat.le_trans h.1 e.size, fun z h1 h2 h3 => (e.block z (Nat.lt_of_lt_of_le h1 h.1) (fun q => h3 (Option.some.inj q))).trans (h.2 z h1 h2 h3)⟩
theorem Only2.set {hb g : Nat} {w a : World} (h : Only2 hb g w a) (k : Nat) (u : Value) : Only2 hb g w (a.setCell ⟨hb, k, none⟩ u) := ⟨by rw [World.size_setCell]; exact h.1, fun z h1 h2 h3 => by rw [heap_setCell_other _ _ _ _ (fun e => h2 e)]; exact h.2 z h1 h2 h3⟩
theorem ownI_only2 {hb g : Nat} {w w' : World} {base : Nat} {v : Value} {l : List Nat} (h : OwnI w base v l) (o : Only2 hb g w w') (h1 : hb < base) (h2 : g < base) : OwnI w' base v l := by
  refine ⟨h.1, h.2.imp id ?_⟩
  rintro ⟨g', cap, cur, e1, e2, e3, e4⟩
  have hlt : g' < w.heap.size := by
    rcases Nat.lt_or_ge g' w.heap.size with h' | h'
    · exact h'
    · rw [Array.getElem?_eq_none h'] at e3; cases e3
  exact ⟨g', cap, cur, e1, e2, by rw [o.2 g' hlt (by omega) (by omega)]; exact e3, e4⟩
set_option maxRecDepth 8000 in
set_option maxHeartbeats 4000000 in
theorem takeI (w0 : World) (fn : Nat) (rc : Value) (n : Nat) (K : Nat → Nat → Int) (O : Orders w0 fn #[rc] n K) (S : Strict (lessK K)) (hb g cap m : Nat) (h : List Nat) (w : World) (X : Ext w0 w) (hb0 : w0.heap.size ≤ hb)
    (H : Vec w hb [.slice (some ⟨g, 0, none⟩) (m + 1) cap, fnB fn rc]) (OI : OwnN w (hb + 1) g (m + 1) cap h) (HO : HeapOK (lessK K) h) (hn : ∀ y ∈ h, y < n) (hm : m ≤ 2000) :
    Calls Tryz.prog 27 #[.pointer (some ⟨hb, 0, none⟩)] w fun e w' => e = .returned (numV (nth h 0)) ∧ (∃ h', Vec w' hb [.slice (some ⟨g, 0, none⟩) m cap, fnB fn rc] ∧ OwnN w' (hb + 1) g m cap h' ∧ HeapOK (lessK K) h' ∧ h.Perm (nth h 0 :: h')) ∧ Only2 hb g w w' ∧ Ext w0 w' := by
  have ltb : hb < w.heap.size := vec_lt H (by simp)
  have hN := ownN_len OI
  have gb := ownN_base OI
  have capl : m + 1 ≤ cap := by
    rcases OI.2 with ⟨h1, _⟩ | ⟨g', cap', cur, h1, h2, h3, h4, _⟩
    · cases h1
    · cases h1; exact h4
  obtain ⟨x0, hx0⟩ : ∃ x, nth h 0 = x := ⟨_, rfl⟩
  have a0 := (H 0 _ rfl).1
  have c0 := ((ownN_vec OI) 0 (numV x0) (by rw [List.getElem?_map, nth_get (by omega), hx0]; rfl)).1
  have HH : Hid (Vec w hb [.slice (some ⟨g, 0, none⟩) (m + 1) cap, fnB fn rc] ∧ OwnN w (hb + 1) g (m + 1) cap h ∧ Ext w0 w) := ⟨H, OI, X⟩
  have HC : Hid (Orders w0 fn #[rc] n K ∧ Strict (lessK K)) := ⟨O, S⟩
  have HHO : Hid (HeapOK (lessK K) h ∧ ∀ y ∈ h, y < n) := ⟨HO, hn⟩
  have HL : Hid (h.length = m + 1) := hN
  have CW : Hid (∀ W, Ext w W → Calls Tryz.prog 55 #[.pointer (some ⟨hb, 0, none⟩), numV 0, numV m] W fun e w' => e = .returned (.tuple #[]) ∧ OwnN w' (hb + 1) g (m + 1) cap (swapL h 0 m) ∧ W.grownBy w' (some g)) := fun W hW => by
    by_cases h0 : m = 0
    · subst h0
      exact swapI0 hb g cap _ h 0 W _ (HH.out.1.later hW) _ (ownN_later HH.out.2.1 hW) (by omega)
    · exact swapI hb g cap _ h 0 m W _ (HH.out.1.later hW) _ (ownN_later HH.out.2.1 hW) (by omega) (by omega) (by omega)
  have HP : Hid (h.Perm (x0 :: (swapL h 0 m).take m) ∧ DownOK (lessK K) ((swapL h 0 m).take m) 0) := ⟨by rw [← hx0]; exact take_perm hN, DownOK.start HO hN⟩
  rw [hx0]
  obtain ⟨M, hM⟩ : ∃ M, m + 1 = M := ⟨_, rfl⟩
  rw [hM] at a0 HH HL CW capl
  have hwM : IntKind.i64.wrap ((M : Int) - 1) = (m : Int) := by rw [IntKind.wrap_i64]; omega
  have M1 : (0 : Int) < (M : Int) := by omega
  clear H OI HO hn O S X hN hx0
  go_enter Tryz.func27, Tryz.ntmps27
  go_wp2_with fail
  go_quiet (fail)
  have E : Ext w (w.drewN nq) := xdNv (xr _) nq
  generalize w.drewN nq = wq at E
  clear a0 c0 hwM
  have CW0 := CW.out wq E
  rw [show numV 0 = .int .i64 0 from rfl] at CW0
  go_wp2_with fail
  refine CW0.mono ?_
  rintro e w1 ⟨rfl, o1, g1⟩
  have V1 : Vec w1 hb [.slice (some ⟨g, 0, none⟩) M cap, fnB fn rc] := vec_keep (HH.out.1.later E) g1 (fun e => by cases e; omega)
  have X1 : Ext w0 w1 := (xt HH.out.2.2 E).grown g1 (xt HH.out.2.2 E).size (fun z hz => by cases hz; omega)
  have b0 := (V1 0 _ rfl).1
  have f0 := (V1 0 _ rfl).2
  have mM : (m : Int) ≤ (M : Int) := by omega
  have mC : (m : Int) ≤ (cap : Int) := by omega
  have m0 : (0 : Int) ≤ (m : Int) := by omega
  have HW : Hid (Vec (w1.setCell ⟨hb, 0, none⟩ (.slice (some ⟨g, 0, none⟩) m cap)) hb [.slice (some ⟨g, 0, none⟩) m cap, fnB fn rc] ∧ OwnN (w1.setCell ⟨hb, 0, none⟩ (.slice (some ⟨g, 0, none⟩) m cap)) (hb + 1) g m cap ((swapL h 0 m).take m) ∧ Only2 hb g w (w1.setCell ⟨hb, 0, none⟩ (.slice (some ⟨g, 0, none⟩) m cap)) ∧ Ext w0 (w1.setCell ⟨hb, 0, none⟩ (.slice (some ⟨g, 0, none⟩) m cap))) :=
    ⟨V1.put 0 (by simp) _, ownN_far (ownN_cut o1 m (by omega)) (p := ⟨hb, 0, none⟩) (Nat.lt_succ_self _) _, (((Only2.refl hb g w).ext E).grown g1).set 0 _, xset X1 (p := ⟨hb, 0, none⟩) hb0 _⟩
  obtain ⟨w2, hw2⟩ : ∃ w2, w1.setCell ⟨hb, 0, none⟩ (.slice (some ⟨g, 0, none⟩) m cap) = w2 := ⟨_, rfl⟩
  rw [hw2] at HW
  clear CW CW0 o1 g1 V1 X1 HH E
  go_wp2_with fail
  clear b0 f0 hw2
  have HQ0 : Hid (∀ y ∈ (swapL h 0 m).take m, y < n) := fun y hy => HHO.out.2 y (HP.out.1.symm.subset (List.mem_cons_of_mem _ hy))
  go_loopw [5] (fun s wr => ∃ (p : Nat) (q : List Nat), s = .int .i64 p ∧ (p = 0 ∨ p < m) ∧ Hid (DownOK (lessK K) q p ∧ OwnN wr (hb + 1) g m cap q ∧ q.Perm ((swapL h 0 m).take m) ∧ Vec wr hb [.slice (some ⟨g, 0, none⟩) m cap, fnB fn rc] ∧ Ext w0 wr ∧ Only2 hb g w wr)) (fun s _ => m - (intOf s).toNat)
  case atStart => exact ⟨0, _, rfl, Or.inl rfl, HP.out.2, HW.out.2.1, List.Perm.refl _, HW.out.1, HW.out.2.2.2, HW.out.2.2.1⟩
  case round =>
    obtain ⟨p, q, rfl, hp, HQ⟩ := hrel
    obtain ⟨wo, hwo⟩ : ∃ wo, wo = wr := ⟨_, rfl⟩
    subst hwo
    have hql := ownN_len HQ.out.2.1
    have HQL : Hid (q.length = m) := hql
    have HE : (∀ i, 0 < i → i < q.length → (i - 1) / 2 = p → leB (lessK K) (nth q p) (nth q i)) → ∀ W, Ext wo W → Hid ((∃ h', Vec W hb [.slice (some ⟨g, 0, none⟩) m cap, fnB fn rc] ∧ OwnN W (hb + 1) g m cap h' ∧ HeapOK (lessK K) h' ∧ h.Perm (x0 :: h')) ∧ Only2 hb g w W ∧ Ext w0 W) := fun hd W hW =>
      ⟨⟨q, HQ.out.2.2.2.1.later hW, ownN_later HQ.out.2.1 hW, HQ.out.1.done hd, HP.out.1.trans (List.Perm.cons _ HQ.out.2.2.1.symm)⟩, HQ.out.2.2.2.2.2.ext hW, xt HQ.out.2.2.2.2.1 hW⟩
    have HEE : Hid ((∀ i, 0 < i → i < q.length → (i - 1) / 2 = p → leB (lessK K) (nth q p) (nth q i)) → ∀ W, Ext wo W → Hid ((∃ h', Vec W hb [.slice (some ⟨g, 0, none⟩) m cap, fnB fn rc] ∧ OwnN W (hb + 1) g m cap h' ∧ HeapOK (lessK K) h' ∧ h.Perm (x0 :: h')) ∧ Only2 hb g w W ∧ Ext w0 W)) := HE
    clear HE hql
    by_cases hm0 : m = 0
    · have HF := HEE.out (fun i i0 i1 _ => by have := HQL.out; omega) wo (xr _)
      obtain rfl : p = 0 := by omega
      have t1 : ¬ (1 : Int) < (m : Int) := by omega
      have t2 : decide ((1 : Int) < (m : Int)) = false := decide_eq_false t1
      clear HEE HQ
      go_wp2_with fail
      go_loopw [6, 7] (fun s6 s7 wi => s6 = .int .i64 0 ∧ s7 = .int .i64 1 ∧ wi = wo) (fun _ _ _ => 0)
      case atStart => exact ⟨rfl, rfl, rfl⟩
      case round =>
        obtain ⟨rfl, rfl, rfl⟩ := hrel
        go_wp2_with fail
        go_ret
        exact ⟨rfl, HF.out⟩
    have pm : p < m := by omega
    have CH : Hid (∀ W a b, Ext wo W → a < m → b < m → Calls Tryz.prog 54 #[.pointer (some ⟨hb, 0, none⟩), numV a, numV b] W fun e w' => e = .returned (.bool (lessK K (nth q a) (nth q b))) ∧ Ext W w') := fun W a b hW ha hb' =>
      isAheadI w0 fn rc n K HC.out.1 hb g cap q a b W (xt HQ.out.2.2.2.2.1 hW) (by rw [HQL.out]; exact HQ.out.2.2.2.1.later hW) ((ownN_vec HQ.out.2.1).later hW) (fun y hy => HQ0.out y (HQ.out.2.2.1.subset hy)) (by rw [HQL.out]; exact ha) (by rw [HQL.out]; exact hb')
    have HN0 : Hid (Next (lessK K) q p (2 * p + 1) p) := Next.start (by rw [HQL.out]; exact pm)
    have k0 : 2 * (p : Int) + 1 = ((2 * p + 1 : Nat) : Int) := by omega
    obtain ⟨P1, hP1⟩ : ∃ P1, 2 * p + 1 = P1 := ⟨_, rfl⟩
    have HP1 : Hid (2 * p + 1 = P1) := hP1
    rw [hP1] at k0 HN0
    have k2 : 2 * (p : Int) + 2 = ((P1 + 1 : Nat) : Int) := by omega
    obtain ⟨P2, hP2⟩ : ∃ P2, P1 + 1 = P2 := ⟨_, rfl⟩
    rw [hP2] at k2
    have HP2 : Hid (P1 + 1 = P2) := hP2
    have pb : p ≤ 2000 := by omega
    clear hP1 hP2
    go_wp2_with fail
    go_loopw [6, 7] (fun s6 s7 wi => ∃ (nx kid : Nat), s6 = .int .i64 nx ∧ s7 = .int .i64 kid ∧ P1 ≤ kid ∧ kid ≤ P2 + 1 ∧ Hid (Next (lessK K) q p kid nx ∧ Ext wo wi)) (fun _ s7 _ => P2 + 1 - (intOf s7).toNat)
    case atStart => exact ⟨p, P1, rfl, rfl, Nat.le_refl _, by have := HP2.out; omega, HN0.out, xr _⟩
    case round =>
      obtain ⟨nx, kid, rfl, rfl, hk1, hk2, HX⟩ := hrel
      have hP2' := HP2.out
      have hnx : nx < m := by have := HX.out.1.in1; rw [HQL.out] at this; exact this
      by_cases hk : kid ≤ P2
      · by_cases hkm : kid < m
        · have t1 : (kid : Int) ≤ (P2 : Int) := by omega
          have t2 : (kid : Int) < (m : Int) := by omega
          have C0 := CH.out wr kid nx HX.out.2 hkm hnx
          obtain ⟨Z, hZ⟩ : ∃ Z, lessK K (nth q kid) (nth q nx) = Z := ⟨_, rfl⟩
          have HZ : Hid (lessK K (nth q kid) (nth q nx) = Z) := hZ
          rw [hZ] at C0
          have HKP : Hid ((kid - 1) / 2 = p ∧ 0 < kid) := by have := HP1.out; exact ⟨by omega, by omega⟩
          clear hZ
          cases Z
          · go_wp2_with (go_at_call 54; refine C0.mono ?_; rintro e w3 ⟨rfl, e3⟩)
            have HN : Hid (Next (lessK K) q p (kid + 1) nx ∧ Ext wo w3) := ⟨HX.out.1.skip HZ.out, xt HX.out.2 e3⟩
            go_roundw
            case rel => exact ⟨nx, kid + 1, rfl, by go_num, by omega, by omega, HN⟩
            case measure => simp [intOf]; omega
          · go_wp2_with (go_at_call 54; refine C0.mono ?_; rintro e w3 ⟨rfl, e3⟩)
            have HN : Hid (Next (lessK K) q p (kid + 1) kid ∧ Ext wo w3) := ⟨HX.out.1.take HC.out.2 HKP.out.2 (by rw [HQL.out]; exact hkm) HKP.out.1 HZ.out, xt HX.out.2 e3⟩
            go_roundw
            case rel => exact ⟨kid, kid + 1, rfl, by go_num, by omega, by omega, HN⟩
            case measure => simp [intOf]; omega
        · have t1 : (kid : Int) ≤ (P2 : Int) := by omega
          have t2 : decide ((kid : Int) < (m : Int)) = false := decide_eq_false (by omega)
          have t3 : ¬ (kid : Int) < (m : Int) := by omega
          have HAll : Hid (∀ i, 0 < i → i < q.length → (i - 1) / 2 = p → leB (lessK K) (nth q nx) (nth q i)) := HX.out.1.all (Or.inr (by rw [HQL.out]; omega))
          by_cases hnp : nx = p
          · subst hnp
            have HF := HEE.out HAll.out wr HX.out.2
            clear HEE HQ HAll
            go_wp2_with fail
            go_ret
            obtain ⟨⟨h9, k1, k2⟩, k3⟩ := HF.out
            exact ⟨rfl, ⟨k1, h9, k2⟩, k3⟩
          · have t9 : ((nx : Int) == (p : Int)) = false := beq_eq_false_iff_ne.2 (by omega)
            have HOW : Hid ((nx - 1) / 2 = p ∧ 0 < nx ∧ lessK K (nth q nx) (nth q p) = true) := by
              rcases HX.out.1.own with e | e
              · exact absurd e hnp
              · exact e
            have CS := swapI hb g cap _ q p nx wr m (HQ.out.2.2.2.1.later HX.out.2) (hb + 1) (ownN_later HQ.out.2.1 HX.out.2) pm hnx (fun e => hnp e.symm)
            have pnx : p < nx := by have := HOW.out; omega
            have hqm := HQL.out
            go_wp2_with (go_at_call 55; refine CS.mono ?_; rintro e w4 ⟨rfl, o4, g4⟩)
            have HN : Hid (DownOK (lessK K) (swapL q p nx) nx ∧ OwnN w4 (hb + 1) g m cap (swapL q p nx) ∧ (swapL q p nx).Perm ((swapL h 0 m).take m) ∧ Vec w4 hb [.slice (some ⟨g, 0, none⟩) m cap, fnB fn rc] ∧ Ext w0 w4 ∧ Only2 hb g w w4) :=
              ⟨HQ.out.1.step HC.out.2 HOW.out.2.1 (by omega) HOW.out.1 HOW.out.2.2 HAll.out, o4, (swap_perm (by omega) (by omega)).trans HQ.out.2.2.1, vec_keep (HQ.out.2.2.2.1.later HX.out.2) g4 (fun e => by cases e; omega), (xt HQ.out.2.2.2.2.1 HX.out.2).grown g4 (xt HQ.out.2.2.2.2.1 HX.out.2).size (fun z hz => by cases hz; omega), (HQ.out.2.2.2.2.2.ext HX.out.2).grown g4⟩
            go_roundw
            case rel => exact ⟨nx, _, rfl, Or.inr hnx, HN⟩
            case measure => simp [intOf]; omega
      · have t1 : decide ((kid : Int) ≤ (P2 : Int)) = false := decide_eq_false (by omega)
        have t3 : ¬ (kid : Int) ≤ (P2 : Int) := by omega
        have HAll : Hid (∀ i, 0 < i → i < q.length → (i - 1) / 2 = p → leB (lessK K) (nth q nx) (nth q i)) := HX.out.1.all (Or.inl (by have := HP1.out; omega))
        by_cases hnp : nx = p
        · subst hnp
          have HF := HEE.out HAll.out wr HX.out.2
          clear HEE HQ HAll
          go_wp2_with fail
          go_ret
          obtain ⟨⟨h9, k1, k2⟩, k3⟩ := HF.out
          exact ⟨rfl, ⟨k1, h9, k2⟩, k3⟩
        · have t9 : ((nx : Int) == (p : Int)) = false := beq_eq_false_iff_ne.2 (by omega)
          have HOW : Hid ((nx - 1) / 2 = p ∧ 0 < nx ∧ lessK K (nth q nx) (nth q p) = true) := by
            rcases HX.out.1.own with e | e
            · exact absurd e hnp
            · exact e
          have CS := swapI hb g cap _ q p nx wr m (HQ.out.2.2.2.1.later HX.out.2) (hb + 1) (ownN_later HQ.out.2.1 HX.out.2) pm hnx (fun e => hnp e.symm)
          have pnx : p < nx := by have := HOW.out; omega
          have hqm := HQL.out
          go_wp2_with (go_at_call 55; refine CS.mono ?_; rintro e w4 ⟨rfl, o4, g4⟩)
          have HN : Hid (DownOK (lessK K) (swapL q p nx) nx ∧ OwnN w4 (hb + 1) g m cap (swapL q p nx) ∧ (swapL q p nx).Perm ((swapL h 0 m).take m) ∧ Vec w4 hb [.slice (some ⟨g, 0, none⟩) m cap, fnB fn rc] ∧ Ext w0 w4 ∧ Only2 hb g w w4) :=
            ⟨HQ.out.1.step HC.out.2 HOW.out.2.1 (by omega) HOW.out.1 HOW.out.2.2 HAll.out, o4, (swap_perm (by omega) (by omega)).trans HQ.out.2.2.1, vec_keep (HQ.out.2.2.2.1.later HX.out.2) g4 (fun e => by cases e; omega), (xt HQ.out.2.2.2.2.1 HX.out.2).grown g4 (xt HQ.out.2.2.2.2.1 HX.out.2).size (fun z hz => by cases hz; omega), (HQ.out.2.2.2.2.2.ext HX.out.2).grown g4⟩
          go_roundw
          case rel => exact ⟨nx, _, rfl, Or.inr hnx, HN⟩
          case measure => simp [intOf]; omega

abbrev YT.val (e : YT) : Value := sortKeyV e.cl e.dn
set_option maxHeartbeats 2000000 in
theorem lackingI (r c : Int) (v : Value) (e : YT) (B : Nat) (w : World) (H : Vec w B [.int .i64 r, .int .i64 c, v]) (hv : ∃ p n k, v = .slice p n k) :
    Calls Tryz.prog 21 #[e.val, .pointer (some ⟨B, 0, none⟩)] w fun z w' => z = .returned (.bool (decide (e.cl < 1 ∨ c < e.cl))) ∧ Ext w w' := by
  obtain ⟨z, d⟩ := e
  obtain ⟨p, n, k, rfl⟩ := hv
  have X0 := x1 w (.cells #[.int .i64 z, .bool d] 34)
  have K0 := vec_made w [.int .i64 z, .bool d] 34
  change Vec (w.alloc (.cells #[.int .i64 z, .bool d] 34)) _ _ at K0
  have CL := fun W => lacksI r c (.slice p n k) z W
  obtain ⟨R, hR⟩ : ∃ R, decide (z < 1 ∨ c < z) = R := ⟨_, rfl⟩
  rw [hR] at CL
  simp only
  rw [hR]
  have k0 := (K0 0 _ rfl).1
  obtain ⟨a0, a1, a2⟩ := Vec.three (H.later X0)
  clear hR
  go_enter Tryz.func21, Tryz.ntmps21
  go_wp2_with (go_at_call 22; refine (CL _).mono ?_; rintro e w1 ⟨rfl, e1⟩)
  go_ret
  exact ⟨rfl, xt X0 e1⟩

/-- What a function says of keys. -/
structure AsksK (w : World) (f : Nat) (lb : Array Value) (p : YT → Bool) : Prop where
  ent : ∀ args w, (callFunc f args).run Tryz.prog w = .ok (.enter f args) w
  says : ∀ W e, Ext w W → Calls Tryz.prog f (#[YT.val e] ++ lb) W fun z w' => z = .returned (.bool (p e)) ∧ Ext W w'
set_option maxRecDepth 8000 in
set_option maxHeartbeats 2000000 in
theorem indexKI (f : Nat) (lb : Array Value) (v : Value) (l : List YT) (p : YT → Bool) (w : World) (A : AsksK w f lb p) (h : SortKeysIn w v l) (hl : l.length ≤ 2000) :
    Calls Tryz.prog 50 #[v, .func (.func f) #[] lb] w fun e w' =>
      ((e = .returned (.int .i64 (-1)) ∧ l.any p = false) ∨ ∃ m : Nat, e = .returned (.int .i64 m) ∧ l.any p = true ∧ m < 2000) ∧ Ext w w' := by
  have ent := A.ent
  have HA : Hid (AsksK w f lb p) := A
  obtain ⟨pk, nk, rfl, hc, hrow⟩ := h
  have HV : Hid (0 < l.length → ∃ b o, pk = some ⟨b, o, none⟩ ∧ RowY w b o l) := hrow
  obtain ⟨n, hn⟩ : ∃ n, l.length = n := ⟨_, rfl⟩
  have HN : Hid (l.length = n) := hn
  rw [hn] at hc hl HV ⊢
  clear hrow A hn
  go_enter Tryz.func50, Tryz.ntmps50
  go_wp2_with fail
  go_loopw [8] (fun i wr => ∃ k : Nat, k ≤ n ∧ i = .int .i64 k ∧ Hid (Ext w wr ∧ ∀ j x, j < k → l[j]? = some x → p x = false)) (fun i _ => n - (intOf i).toNat)
  case atStart => exact ⟨0, by omega, rfl, xr _, fun j x hj => absurd hj (by omega)⟩
  case round =>
    obtain ⟨k, hk, rfl, HO⟩ := hrel
    by_cases hlt : k < n
    · have i2 : (k : Int) < (n : Int) := by omega
      obtain ⟨⟨z, d⟩, hx⟩ : ∃ x, l[k]? = some x := ⟨_, List.getElem?_eq_getElem (by rw [HN.out]; exact hlt)⟩
      obtain ⟨b, o, rfl, RW⟩ := HV.out (by omega)
      obtain ⟨a0, a1⟩ := (RW.later HO.out.1).all hx
      have CA := HA.out.says wr ⟨z, d⟩ HO.out.1
      have HX : Hid (l[k]? = some ⟨z, d⟩) := hx
      obtain ⟨q, hq⟩ : ∃ q, p ⟨z, d⟩ = q := ⟨_, rfl⟩
      have HQ : Hid (p ⟨z, d⟩ = q) := hq
      rw [hq] at CA
      simp only at a0 a1
      clear hx hq RW
      cases q
      · go_wp2_with (go_at_fn f; refine CA.mono ?_; rintro e w1 ⟨rfl, e1⟩)
        have HM : Hid (Ext w w1 ∧ ∀ j x, j < k + 1 → l[j]? = some x → p x = false) := ⟨xt HO.out.1 e1, fun j y hj hy => by
          by_cases e : j = k
          · subst e
            rw [HX.out] at hy
            cases hy
            exact HQ.out
          · exact HO.out.2 j y (by omega) hy⟩
        go_roundw
        case rel => exact ⟨k + 1, by omega, by go_num, HM⟩
        case measure => simp [intOf]; omega
      · go_wp2_with (go_at_fn f; refine CA.mono ?_; rintro e w1 ⟨rfl, e1⟩)
        go_ret
        exact ⟨Or.inr ⟨k, rfl, List.any_eq_true.2 ⟨_, List.mem_of_getElem? HX.out, HQ.out⟩, by omega⟩, xt HO.out.1 e1⟩
    · obtain rfl : k = n := by omega
      have i2 : ¬ (k : Int) < (k : Int) := by omega
      go_wp2_with fail
      go_ret
      refine ⟨Or.inl ⟨rfl, ?_⟩, HO.out.1⟩
      intro x hx
      obtain ⟨j, hj, rfl⟩ := List.getElem_of_mem hx
      exact HO.out.2 j _ (by rw [← HN.out]; exact hj) (List.getElem?_eq_getElem hj)
set_option maxHeartbeats 2000000 in
theorem containsKI (f : Nat) (lb : Array Value) (v : Value) (l : List YT) (p : YT → Bool) (w : World) (A : AsksK w f lb p) (h : SortKeysIn w v l) (hl : l.length ≤ 2000) :
    Calls Tryz.prog 24 #[v, .func (.func f) #[] lb] w fun e w' => e = .returned (.bool (l.any p)) ∧ Ext w w' := by
  have C0 := indexKI f lb v l p w A h hl
  obtain ⟨pk, nk, rfl, _, _⟩ := h
  obtain ⟨R, hR⟩ : ∃ R, l.any p = R := ⟨_, rfl⟩
  rw [hR] at C0 ⊢
  obtain ⟨n, hn⟩ : ∃ n, l.length = n := ⟨_, rfl⟩
  rw [hn] at C0 hl ⊢
  clear A hR hn
  go_enter Tryz.func24, Tryz.ntmps24
  go_wp2_with fail
  refine C0.mono ?_
  rintro e w1 ⟨⟨rfl, rfl⟩ | ⟨m, rfl, rfl, hm⟩, e1⟩
  · go_wp2_with fail
    go_ret
    exact ⟨rfl, e1⟩
  · have m0 : (0 : Int) ≤ (m : Int) := by omega
    have m1 : decide ((m : Int) ≥ 0) = true := decide_eq_true m0
    go_wp2_with fail
    go_ret
    exact ⟨rfl, e1⟩

end Go.Proofs.YtbomplppgobkdaaGreatDoor

