/-
  Chapter 11: one put into the heap, of the program.
-/
import Derived.Test.YtlofnhhoopefcaaGreatDoorQm
namespace Go.Proofs.YtlofnhhoopefcaaGreatDoor
open Go.RowKit

abbrev lessK (K : Nat → Nat → Int) (x y : Nat) : Bool := decide (K x y < 0)
abbrev fnB (fn : Nat) (rc : Value) : Value := .func (.func fn) #[rc] #[]
set_option maxRecDepth 8000 in
set_option maxHeartbeats 4000000 in
theorem putI (w0 : World) (fn : Nat) (rc : Value) (n : Nat) (K : Nat → Nat → Int) (O : Orders w0 fn #[rc] n K) (S : Strict (lessK K)) (hb : Nat) (items : Value) (h : List Nat) (x : Nat) (w : World) (X : Ext w0 w) (hb0 : w0.heap.size ≤ hb)
  (H : Vec w hb [items, fnB fn rc]) (OI : OwnI w (hb + 1) items h) (HO : HeapOK (lessK K) h) (hn : ∀ y ∈ h, y < n) (hx : x < n) (hl : h.length ≤ 2000) :
  Calls Tryz.prog 30 #[.pointer (some ⟨hb, 0, none⟩), numV x] w fun e w' => e = .returned (.tuple #[]) ∧ (∃ items' h', Vec w' hb [items', fnB fn rc] ∧ OwnI w' (hb + 1) items' h' ∧ HeapOK (lessK K) h' ∧ h'.Perm (x :: h)) ∧ Ext w0 w' := by
 have ltb : hb < w.heap.size := vec_lt H (by simp)
 have HOI : Hid (OwnI w (hb + 1) items h) := OI
 have HHO : Hid (HeapOK (lessK K) h ∧ ∀ y ∈ h, y < n) := ⟨HO, hn⟩
 have HC : Hid (Orders w0 fn #[rc] n K ∧ Strict (lessK K)) := ⟨O, S⟩
 obtain ⟨p0, c0, rfl, _⟩ := ownI_slice OI
 obtain ⟨m, hm⟩ : ∃ m, h.length = m := ⟨_, rfl⟩
 have HM : Hid (h.length = m) := hm
 rw [hm] at hl H HOI
 have a0 := (H 0 _ rfl).1
 obtain ⟨inf, hi, hz, hz1, hz2⟩ := infoI
 clear OI HO hn O S hm
 go_enter Tryz.func30, Tryz.ntmps30
 go_wp2_with (at_builtin; refine wpList_append_own _ rfl _ _ 28 rfl (hb + 1) 3 inf (.int .i64 0) 1 8 Tryz.underlying28 hi hz hz1 hz2 rfl (by decide) _ _ _ rfl (HOI.out.alloc _) ⟨w.heap.size, 0, none⟩ 1 1 [.int .i64 x] rfl rfl (World.news_of_block (heap_alloc_new w (.cells [.int .i64 (x : Int)].toArray 3))) (by simp [Value.oneCell']) (by rw [HM.out]; simp only [maxLen]; omega) (by rw [HM.out]; omega) (by simp; omega) ?_)
 intro v7 wC ownC gC _
 have lb := ownI_block HOI.out
 have XC : Ext w0 wC := (xa X _).grown gC (xa X _).size (fun r hr => by have := lb r hr; omega)
 have VC : Vec wC hb [.slice p0 m c0, fnB fn rc] := vec_keep (H.later (x1 w _)) gC (fun e => by have := lb hb e.symm; omega)
 have OC : OwnI wC (hb + 1) v7 (h ++ [x]) := by
  show World.ownsRow _ _ _ _ _ _ _
  rw [List.map_append, List.length_append]
  exact ownC
 have hn7 : (h ++ [x]).length = m + 1 := by rw [List.length_append, HM.out]; rfl
 obtain ⟨g, c7, rfl⟩ : ∃ g c, v7 = .slice (some ⟨g, 0, none⟩) (m + 1) c := by
  rcases OC.2 with ⟨_, h2⟩ | ⟨g, c, _, h2, _⟩
  ·
   omega
  ·
   exact ⟨g, c, by rw [h2, hn7]⟩
 have q0 := (VC 0 _ rfl).1
 have f0 := (VC 0 _ rfl).2
 obtain ⟨M, hM⟩ : ∃ M, m + 1 = M := ⟨_, rfl⟩
 have OD0 : OwnN wC (hb + 1) g (m + 1) c7 (h ++ [x]) := by have := OC; rw [show OwnI wC (hb + 1) (.slice (some ⟨g, 0, none⟩) (m + 1) c7) (h ++ [x]) = wC.ownsRow (hb + 1) 3 1 (.slice (some ⟨g, 0, none⟩) (m + 1) c7) (h ++ [x]).length ((h ++ [x]).map numV) from rfl, hn7] at this; exact this
 rw [hM] at OD0 ⊢
 have HD : Hid (UpOK (lessK K) (h ++ [x]) m ∧ OwnN (wC.setCell ⟨hb, 0, none⟩ (.slice (some ⟨g, 0, none⟩) M c7)) (hb + 1) g M c7 (h ++ [x]) ∧ (h ++ [x]).Perm (x :: h) ∧ Vec (wC.setCell ⟨hb, 0, none⟩ (.slice (some ⟨g, 0, none⟩) M c7)) hb [.slice (some ⟨g, 0, none⟩) M c7, fnB fn rc] ∧ Ext w0 (wC.setCell ⟨hb, 0, none⟩ (.slice (some ⟨g, 0, none⟩) M c7))) :=
  ⟨by have := UpOK.start HHO.out.1 x; rw [HM.out] at this; exact this, ownN_far OD0 (p := ⟨hb, 0, none⟩) (Nat.lt_succ_self _) _, List.perm_append_singleton _ _, VC.put 0 (by simp) _, xset XC (p := ⟨hb, 0, none⟩) hb0 _⟩
 obtain ⟨wD, hwD⟩ : ∃ wD, wC.setCell ⟨hb, 0, none⟩ (.slice (some ⟨g, 0, none⟩) M c7) = wD := ⟨_, rfl⟩
 rw [hwD] at HD
 have d0 := (HD.out.2.2.2.1 0 _ rfl).1
 have e4 : (M : Int) - 1 = (m : Int) := by omega
 clear ownC gC lb XC VC OC OD0 hi hz hz1 hz2 hn7 a0
 go_wp2_with fail
 clear q0 f0 d0 hwD
 go_loopw [4] (fun s wr => ∃ (p : Nat) (q : List Nat), s = .int .i64 p ∧ p ≤ m ∧ Hid (UpOK (lessK K) q p ∧ OwnN wr (hb + 1) g M c7 q ∧ q.Perm (x :: h) ∧ Vec wr hb [.slice (some ⟨g, 0, none⟩) M c7, fnB fn rc] ∧ Ext w0 wr)) (fun s _ => (intOf s).toNat)
 case atStart => exact ⟨m, _, rfl, Nat.le_refl _, HD⟩
 case round =>
  obtain ⟨p, q, rfl, hp, HQ⟩ := hrel
  have hql := ownN_len HQ.out.2.1
  have HE : (lessK K (nth q p) (nth q ((p - 1) / 2)) = false ∨ p = 0) → Hid ((∃ items' h', Vec wr hb [items', fnB fn rc] ∧ OwnI wr (hb + 1) items' h' ∧ HeapOK (lessK K) h' ∧ h'.Perm (x :: h)) ∧ Ext w0 wr) := fun hd =>
   ⟨⟨_, q, HQ.out.2.2.2.1, by have := HQ.out.2.1; rw [← hql] at this ⊢; exact this, HQ.out.1.done (hd.symm), HQ.out.2.2.1⟩, HQ.out.2.2.2.2⟩
  by_cases hp0 : p = 0
  ·
   subst hp0
   have HF := HE (Or.inr rfl)
   clear HE HQ hql
   go_wp2_with fail
   exact bodyPost_end (results_none rfl _ _ _) rfl ⟨rfl, HF.out⟩
  ·
   obtain ⟨p1, hp1⟩ : ∃ p1, p - 1 = p1 := ⟨_, rfl⟩
   obtain ⟨r, hr⟩ : ∃ r, p1 / 2 = r := ⟨_, rfl⟩
   have b1 : (p : Int) - 1 = (p1 : Int) := by omega
   have b2 : (p1 : Int).tdiv 2 = (r : Int) := by rw [Int.tdiv_eq_ediv_of_nonneg (by omega)]; omega
   have b3 : (p : Int) > 0 := by omega
   have b3' : (0 : Int) < (p : Int) := by omega
   have rp : r < p := by omega
   have CH := isAheadI w0 fn rc n K HC.out.1 hb g c7 q p r wr HQ.out.2.2.2.2 (by rw [hql]; exact HQ.out.2.2.2.1) (ownN_vec HQ.out.2.1) (fun y hy => by
    rcases List.mem_cons.1 (HQ.out.2.2.1.subset hy) with rfl | h2
    ·
     exact hx
    ·
     exact HHO.out.2 y h2) (by omega) (by omega)
   have HPR : Hid ((p - 1) / 2 = r) := by show _ = _; rw [hp1, hr]
   obtain ⟨Z, hZ⟩ : ∃ Z, decide (K (nth q p) (nth q r) < 0) = Z := ⟨_, rfl⟩
   rw [hZ] at CH
   have HZ : Hid (lessK K (nth q p) (nth q r) = Z) := hZ
   clear hp1 hr hZ
   cases Z
   ·
    have HF := HE (Or.inl (by rw [HPR.out]; exact HZ.out))
    clear HE HQ hql
    go_wp2_with (go_at_call 48; refine CH.mono ?_; rintro e w1 ⟨rfl, e1⟩)
    exact bodyPost_end (results_none rfl _ _ _) rfl ⟨rfl, by obtain ⟨⟨i2, h2, k1, k2, k3, k4⟩, k5⟩ := HF.out; exact ⟨⟨i2, h2, k1.later e1, ownI_later k2 e1, k3, k4⟩, xt k5 e1⟩⟩
   ·
    have CW : Hid (∀ W, Ext wr W → Calls Tryz.prog 49 #[.pointer (some ⟨hb, 0, none⟩), numV p, numV r] W fun e w' => e = .returned (.tuple #[]) ∧ OwnN w' (hb + 1) g M c7 (swapL q p r) ∧ W.grownBy w' (some g)) := fun W hW =>
     swapI hb g c7 _ q p r W M (HQ.out.2.2.2.1.later hW) (hb + 1) (ownN_later HQ.out.2.1 hW) (by omega) (by omega) (by omega)
    have gb := ownN_base HQ.out.2.1
    have HU : Hid (UpOK (lessK K) (swapL q p r) r ∧ (swapL q p r).Perm (x :: h)) := by
     refine ⟨?_, (swap_perm (by omega) (by omega)).trans HQ.out.2.2.1⟩
     have := UpOK.step HC.out.2 HQ.out.1 (by omega) (by omega) (by rw [HPR.out]; exact HZ.out)
     rw [HPR.out] at this
     exact this
    clear HE
    go_wp2_with (first
     | (go_at_call 48; refine CH.mono ?_; rintro e w1 ⟨rfl, e1⟩)
     | (go_at_call 49; refine (CW.out w1 e1).mono ?_; rintro e w2 ⟨rfl, o2, g2⟩))
    have HN : Hid (UpOK (lessK K) (swapL q p r) r ∧ OwnN w2 (hb + 1) g M c7 (swapL q p r) ∧ (swapL q p r).Perm (x :: h) ∧ Vec w2 hb [.slice (some ⟨g, 0, none⟩) M c7, fnB fn rc] ∧ Ext w0 w2) :=
     ⟨HU.out.1, o2, HU.out.2, vec_keep (HQ.out.2.2.2.1.later e1) g2 (fun e => by cases e; omega), (xt HQ.out.2.2.2.2 e1).grown g2 (xt HQ.out.2.2.2.2 e1).size (fun z hz => by cases hz; omega)⟩
    go_roundw
    case rel => exact ⟨r, _, rfl, by omega, HN⟩
    case measure => simp [intOf]; omega

end Go.Proofs.YtlofnhhoopefcaaGreatDoor

