/-
  Chapter 11: SortRows, of the program.
-/
import Derived.Test.YtlofnhhoopefcaaGreatDoorQp
import Derived.Test.YtlofnhhoopefcaaGreatDoorQo
import Derived.Test.YtlofnhhoopefcaaGreatDoorQq
namespace Go.Proofs.YtlofnhhoopefcaaGreatDoor
open Go.RowKit

/-- A grid and keys that can be put in order. -/
def sortG (r c : Int) (l : List VT) (ks : List YT) : Bool := goodG r c l && decide (ks.length ≤ 8) && !(ks.any fun k => decide (k.cl < 1 ∨ c < k.cl))
/-- What SortRows answers. -/
def SortOK (r c : Int) (l : List VT) (ks : List YT) (S : List Nat) : Prop := if sortG r c l ks then InOrder (lessR l c.toNat ks) r.toNat S else S = []
theorem SortOK.one {r c : Int} {l : List VT} {ks : List YT} {S T : List Nat} (h : SortOK r c l ks S) (k : SortOK r c l ks T) : S = T := by
 unfold SortOK at h k
 by_cases hg : sortG r c l ks = true
 ·
  rw [if_pos hg] at h k
  have hgg : goodG r c l = true := by unfold sortG at hg; simp only [Bool.and_eq_true] at hg; exact hg.1.1
  exact InOrder.one (lessR_strict (goodG_all hgg).2.1 _ _) h k
 ·
  rw [if_neg hg] at h k
  rw [h, k]
theorem SortOK.len {r c : Int} {l : List VT} {ks : List YT} {S : List Nat} (h : SortOK r c l ks S) : S.length ≤ 2000 := by
 unfold SortOK at h
 by_cases hg : sortG r c l ks = true
 ·
  rw [if_pos hg] at h
  have hgg : goodG r c l = true := by unfold sortG at hg; simp only [Bool.and_eq_true] at hg; exact hg.1.1
  have := (goodG_all hgg).2.2.1
  rw [h.len]
  omega
 ·
  rw [if_neg hg] at h
  rw [h]
  exact Nat.zero_le _
theorem lessK_row (l : List VT) (c : Nat) (ks : List YT) : lessK (cmpRow l c ks) = lessR l c ks := funext fun _ => funext fun _ => cmpRow_less
set_option maxRecDepth 8000 in
set_option maxHeartbeats 4000000 in
theorem sortI (r c : Int) (v kv : Value) (l : List VT) (ks : List YT) (w : World) (h : ValsIn w v l) (hk : SortKeysIn w kv ks) (hl : l.length ≤ 1048576) (hkl : ks.length ≤ 1048576) (hr : ∀ e ∈ l, e.room) (hT : Tens w) (hE : ErrTab w) :
  Calls Tryz.prog 10 #[grV r c v, kv] w fun e w' => ∃ ans S, e = .returned ans ∧ AnsI w w' ans S ∧ SortOK r c l ks S := by
 have X0 := x1 w (.cells #[.int .i64 r, .int .i64 c, v] 32)
 have B0 := vec_made w [.int .i64 r, .int .i64 c, v] 32
 have S0 : (w.alloc (.cells #[.int .i64 r, .int .i64 c, v] 32)).heap.size = w.heap.size + 1 := by rw [World.size_alloc]
 change Vec (w.alloc (.cells #[.int .i64 r, .int .i64 c, v] 32)) _ _ at B0
 obtain ⟨u0, hu0⟩ : ∃ u, w.alloc (.cells #[.int .i64 r, .int .i64 c, v] 32) = u := ⟨_, rfl⟩
 rw [hu0] at X0 B0 S0
 have C0 := goodGI r c v l u0 (h.later X0) (by omega) (fun e he => (hr e he).1) (fun e he => (hr e he).2) (hT.later X0) (hE.later X0)
 have HV : Hid (ValsIn w v l ∧ SortKeysIn w kv ks) := ⟨h, hk⟩
 have HTE : Hid (Tens w ∧ ErrTab w ∧ ∀ e ∈ l, e.room) := ⟨hT, hE, hr⟩
 have HG : Hid (goodG r c l = true → (∃ R C : Nat, r = R ∧ c = C ∧ l.length = R * C ∧ R * C ≤ 2000 ∧ 1 ≤ R ∧ 1 ≤ C ∧ R ≤ 2000 ∧ C ≤ 2000) ∧ ∀ e ∈ l, e.good = true) := fun h => ⟨good_dims h, (goodG_all h).2.1⟩
 obtain ⟨pv, nv, rfl⟩ : ∃ p n, v = .slice p l.length n := by obtain ⟨p, n, h, _⟩ := h; exact ⟨p, n, h⟩
 obtain ⟨pk, nk, rfl⟩ : ∃ p n, kv = .slice p ks.length n := by obtain ⟨p, n, h, _⟩ := hk; exact ⟨p, n, h⟩
 have HK : Hid (∀ W, Ext u0 W → ks.length ≤ 8 → Calls Tryz.prog 28 #[.slice pk ks.length nk, .func (.func 25) #[] #[.pointer (some ⟨w.heap.size, 0, none⟩)]] W fun e w' => e = .returned (.bool (ks.any fun k => decide (k.cl < 1 ∨ c < k.cl))) ∧ Ext W w') := fun W hW h8 =>
  containsKI _ _ _ ks _ W ⟨enters_of Tryz.func25 (by kernel_rfl) rfl, fun W' e hW' => lackingI r c _ e _ W' (B0.later (xt hW hW')) ⟨_, _, _, rfl⟩⟩ (HV.out.2.later (xt X0 hW)) (by omega)
 have HS : Hid (sortG r c l ks = (goodG r c l && decide (ks.length ≤ 8) && !(ks.any fun k => decide (k.cl < 1 ∨ c < k.cl)))) := rfl
 have HOK : Hid (∀ S, (if sortG r c l ks then InOrder (lessR l c.toNat ks) r.toNat S else S = []) → SortOK r c l ks S) := fun S h => h
 obtain ⟨LN, hLN⟩ : ∃ LN, ks.length = LN := ⟨_, rfl⟩
 obtain ⟨N, hN⟩ : ∃ N, l.length = N := ⟨_, rfl⟩
 have HN : Hid (l.length = N ∧ ks.length = LN) := ⟨hN, hLN⟩
 obtain ⟨G, hG⟩ : ∃ G, goodG r c l = G := ⟨_, rfl⟩
 obtain ⟨Y, hY⟩ : ∃ Y, (ks.any fun k => decide (k.cl < 1 ∨ c < k.cl)) = Y := ⟨_, rfl⟩
 have HY : Hid ((ks.any fun k => decide (k.cl < 1 ∨ c < k.cl)) = Y) := hY
 rw [hG, hLN, hY] at HS
 rw [hY, hLN] at HK
 rw [hG] at C0 HG
 rw [hN] at C0 B0 hu0 HV HG hl ⊢
 rw [hLN] at HV hkl ⊢
 obtain ⟨a0, a1, a2⟩ := Vec.three B0
 clear h hk hr hT hE hG hY hN hLN
 cases G
 ·
  have HF : Hid (sortG r c l ks = false) := by show _ = _; rw [HS.out]; rfl
  go_enter Tryz.func10, Tryz.ntmps10
  go_wp2_with (go_at_call 27; refine C0.mono ?_; rintro e w1 ⟨rfl, e1⟩)
  go_ret
  exact ⟨_, [], rfl, ⟨nums_nil _, fun h => absurd h (by simp), xt X0 e1⟩, HOK.out _ (by rw [HF.out]; rfl)⟩
 by_cases h8 : LN ≤ 8
 ·
  have f8 : ¬ (8 : Int) < (LN : Int) := by omega
  have f8' : decide ((LN : Int) > 8) = false := decide_eq_false (by omega)
  have CK := HK.out
  cases Y
  ·
   have HF : Hid (sortG r c l ks = true) := by show _ = _; rw [HS.out, decide_eq_true h8]; rfl
   obtain ⟨⟨R, C, rfl, rfl, hlen, h3, h4, h5, h6, h7⟩, hgd⟩ := HG.out rfl
   have HGD : Hid (∀ e ∈ l, e.good = true) := hgd
   have HLN : Hid (N = R * C) := hlen
   have HKO : Hid (KeysOK C ks) := fun k hk => by
    have := (List.any_eq_false.1 HY.out) k hk
    simp only [decide_eq_true_eq, not_or, Int.not_lt] at this
    exact this
   have hst := fun (W : World) (q : Addr) => run_store Tryz.prog W q (.func (.func 29) #[.agg #[.int .i64 R, .int .i64 C, .slice pv N nv, .slice pk LN nk]] #[]) Mode.plain rfl
   clear HG hgd hlen HS HY
   go_enter Tryz.func10, Tryz.ntmps10
   go_wp2_with (first
    | (go_at_call 27; refine C0.mono ?_; rintro e w1 ⟨rfl, e1⟩)
    | (go_at_call 28; refine (CK w1 e1 h8).mono ?_; rintro e wx ⟨rfl, e2⟩; obtain ⟨a0, a1, a2⟩ := Vec.three (B0.later (xt e1 e2)); have d0 := (((B0.later (xt e1 e2)).later (x1 wx (.cells #[.slice none 0 0, .func (.func 29) #[.agg #[.int .i64 R, .int .i64 C, .slice pv N nv, .slice pk LN nk]] #[]] 60))) 0 _ rfl).1))
   have BX := B0.later (xt e1 e2)
   have XX := xt X0 (xt e1 e2)
   have HO0 : Hid (Orders wx 29 #[.agg #[.int .i64 R, .int .i64 C, .slice pv N nv, .slice pk LN nk]] R (cmpRow l C ks)) := by
    refine ⟨enters_of Tryz.func29 (by kernel_rfl) rfl, fun W x y hW hx hy => ?_⟩
    have hYW := xt XX hW
    exact compareRowI R C _ _ l ks x y W (HV.out.1.later hYW) (HV.out.2.later hYW) (by rw [HN.out.1, HLN.out]) (by rw [HN.out.1, HLN.out]; exact h3) hx hy HKO.out (by rw [HN.out.2]; exact h8) h7 h6 HTE.out.2.2 (HTE.out.1.later hYW) (HTE.out.2.1.later hYW)
   have HST : Hid (Strict (lessK (cmpRow l C ks))) := by show Strict _; rw [lessK_row]; exact lessR_strict HGD.out _ _
   have HB := vec_made wx [.slice none 0 0, .func (.func 29) #[.agg #[.int .i64 R, .int .i64 C, .slice pv N nv, .slice pk LN nk]] #[]] 60
   change Vec (wx.alloc (.cells #[.slice none 0 0, .func (.func 29) #[.agg #[.int .i64 R, .int .i64 C, .slice pv N nv, .slice pk LN nk]] #[]] 60)) _ _ at HB
   have HBX := x1 wx (.cells #[.slice none 0 0, .func (.func 29) #[.agg #[.int .i64 R, .int .i64 C, .slice pv N nv, .slice pk LN nk]] #[]] 60)
   obtain ⟨wh, hwh⟩ : ∃ wh, wx.alloc (.cells #[.slice none 0 0, .func (.func 29) #[.agg #[.int .i64 R, .int .i64 C, .slice pv N nv, .slice pk LN nk]] #[]] 60) = wh := ⟨_, rfl⟩
   rw [hwh] at HB HBX ⊢
   have HW0 : Hid (∃ items hh, Vec wh wx.heap.size [items, .func (.func 29) #[.agg #[.int .i64 R, .int .i64 C, .slice pv N nv, .slice pk LN nk]] #[]] ∧ OwnI wh (wx.heap.size + 1) items hh ∧ HeapOK (lessK (cmpRow l C ks)) hh ∧ hh.Perm (List.range 0) ∧ Ext wx wh) :=
    ⟨_, [], HB, ownI_nil _ _, fun i _ hi => absurd hi (by simp), List.Perm.refl _, HBX⟩
   have HBX0 : Hid (Vec wx w.heap.size [.int .i64 R, .int .i64 C, .slice pv N nv] ∧ Ext w wx) := ⟨BX, XX⟩
   have lwx : w.heap.size < wx.heap.size := vec_lt BX (by simp)
   have HFx : Hid (sortG (R : Int) (C : Int) l ks = true) := HF
   clear a0 a1 a2 d0 hwh hst C0 CK HK BX XX HB HBX HKO HTE HV HGD HF HLN e1 e2 X0 B0
   go_loopw [30] (fun s wr => ∃ k : Nat, s = .int .i64 k ∧ k ≤ R ∧ Hid (∃ items hh, Vec wr wx.heap.size [items, .func (.func 29) #[.agg #[.int .i64 R, .int .i64 C, .slice pv N nv, .slice pk LN nk]] #[]] ∧ OwnI wr (wx.heap.size + 1) items hh ∧ HeapOK (lessK (cmpRow l C ks)) hh ∧ hh.Perm (List.range k) ∧ Ext wx wr)) (fun s _ => R - (intOf s).toNat)
   case atStart => exact ⟨0, rfl, by omega, HW0⟩
   case round =>
    obtain ⟨k, rfl, hk, HI⟩ := hrel
    by_cases hlt : k < R
    ·
     have i2 : (k : Int) < (R : Int) := by omega
     obtain ⟨items, hh, q1, q2, q3, q4, q5⟩ := HI.out
     have CP := putI wx 29 _ R _ HO0.out HST.out wx.heap.size items hh k wr q5 (Nat.le_refl _) q1 q2 q3 (fun y hy => by have := List.mem_range.1 (q4.subset hy); omega) hlt (by rw [q4.length_eq, List.length_range]; omega)
     have HPq : Hid (hh.Perm (List.range k)) := q4
     clear q1 q2 q3 q4 q5 HI HW0
     go_wp2_with fail
     refine CP.mono ?_
     rintro e w2 ⟨rfl, ⟨it2, h2, r1, r2, r3, r4⟩, r5⟩
     have HN2 : Hid (∃ items hh, Vec w2 wx.heap.size [items, .func (.func 29) #[.agg #[.int .i64 R, .int .i64 C, .slice pv N nv, .slice pk LN nk]] #[]] ∧ OwnI w2 (wx.heap.size + 1) items hh ∧ HeapOK (lessK (cmpRow l C ks)) hh ∧ hh.Perm (List.range (k + 1)) ∧ Ext wx w2) :=
      ⟨it2, h2, r1, r2, r3, by
       rw [List.range_succ]
       exact r4.trans ((List.Perm.cons _ HPq.out).trans (List.perm_append_singleton _ _).symm), r5⟩
     clear CP r1 r2 r3 r4 r5
     go_wp2_with fail
     go_roundw
     case rel => exact ⟨k + 1, by go_num, by omega, HN2⟩
     case measure => simp [intOf]; omega
    ·
     obtain rfl : k = R := by omega
     have i2 : ¬ (k : Int) < (k : Int) := by omega
     obtain ⟨items, hh, q1, q2, q3, q4, q5⟩ := HI.out
     have hhl : hh.length = k := by rw [q4.length_eq, List.length_range]
     obtain ⟨g, cap, rfl⟩ : ∃ g c, items = .slice (some ⟨g, 0, none⟩) k c := by
      rcases q2.2 with ⟨_, e⟩ | ⟨g, c, _, e, _⟩
      ·
       omega
      ·
       exact ⟨g, c, by rw [e, hhl]⟩
     have o2 : OwnN wr (wx.heap.size + 1) g k cap hh := by
      have := q2
      rw [show OwnI wr (wx.heap.size + 1) (.slice (some ⟨g, 0, none⟩) k cap) hh = wr.ownsRow (wx.heap.size + 1) 3 1 (.slice (some ⟨g, 0, none⟩) k cap) hh.length (hh.map numV) from rfl, hhl] at this
      exact this
     obtain ⟨wt, hwt⟩ : ∃ wt, wt = wr := ⟨_, rfl⟩
     subst hwt
     have gl : g < wt.heap.size := (o2.lt g rfl).2
     have hl2 : wx.heap.size < wt.heap.size := vec_lt q1 (by simp)
     have d0 := ((HBX0.out.1.later q5) 0 _ rfl).1
     have HT0 : Hid (∃ hh rows, OwnI wt wt.heap.size (.slice none 0 0) rows ∧ rows.length = 0 ∧ Vec wt wx.heap.size [.slice (some ⟨g, 0, none⟩) (k - 0) cap, .func (.func 29) #[.agg #[.int .i64 k, .int .i64 C, .slice pv N nv, .slice pk LN nk]] #[]] ∧ OwnN wt (wx.heap.size + 1) g (k - 0) cap hh ∧ Taking (lessK (cmpRow l C ks)) k rows hh ∧ Ext wx wt ∧ wt.heap.size ≤ wt.heap.size) :=
      ⟨hh, [], ownI_nil _ _, rfl, q1, o2, Taking.start q3 q4, q5, Nat.le_refl _⟩
     clear HI HW0 q1 q2 q3 q4 q5 o2 hhl
     go_wp2_with fail
     clear d0
     go_loopw [8, 38] (fun s8 s38 wr => ∃ (i n2 c2 : Nat) (p2 : Option Addr), s38 = .int .i64 i ∧ i ≤ k ∧ s8 = .slice p2 n2 c2 ∧ Hid (∃ hh rows, OwnI wr wt.heap.size (.slice p2 n2 c2) rows ∧ rows.length = i ∧ Vec wr wx.heap.size [.slice (some ⟨g, 0, none⟩) (k - i) cap, .func (.func 29) #[.agg #[.int .i64 k, .int .i64 C, .slice pv N nv, .slice pk LN nk]] #[]] ∧ OwnN wr (wx.heap.size + 1) g (k - i) cap hh ∧ Taking (lessK (cmpRow l C ks)) k rows hh ∧ Ext wx wr ∧ wt.heap.size ≤ wr.heap.size)) (fun _ s38 _ => k - (intOf s38).toNat)
     case atStart => exact ⟨0, 0, 0, none, rfl, by omega, rfl, HT0⟩
     case round =>
      obtain ⟨i, n2, c2, p2, rfl, hik, rfl, HI⟩ := hrel
      by_cases hlt : i < k
      ·
       have j2 : (i : Int) < (k : Int) := by omega
       obtain ⟨hh, rows, q1, q2, q3, q4, q5, q6, q7⟩ := HI.out
       obtain ⟨m, hm⟩ : ∃ m, k - i = m + 1 := ⟨k - i - 1, by omega⟩
       rw [hm] at q3 q4
       have hhl := ownN_len q4
       have CT := takeI wx 29 _ k _ HO0.out HST.out wx.heap.size g cap m hh wr q6 (Nat.le_refl _) q3 q4 q5.heap (fun y hy => List.mem_range.1 (q5.all.subset (List.mem_append_right _ hy))) (by omega)
       have HQ : Hid (OwnI wr wt.heap.size (.slice p2 n2 c2) rows ∧ rows.length = i ∧ Taking (lessK (cmpRow l C ks)) k rows hh ∧ Ext wx wr) := ⟨q1, q2, q5, q6⟩
       obtain ⟨t, ht⟩ : ∃ t, nth hh 0 = t := ⟨_, rfl⟩
       have HT : Hid (nth hh 0 = t) := ht
       rw [ht] at CT
       clear q1 q2 q3 q4 q5 q6 HI HT0 ht
       go_wp2_with fail
       refine CT.mono ?_
       rintro e w3 ⟨rfl, ⟨h3', r1, r2, r3, r4⟩, r5, r6⟩
       have OQ : Hid (OwnI w3 wt.heap.size (.slice p2 n2 c2) rows) := ownI_only2 HQ.out.1 r5 hl2 gl
       have lk : rows.length = i := HQ.out.2.1
       obtain ⟨inf, hi, hz, hz1, hz2⟩ := infoI
       have hs3 : wt.heap.size ≤ w3.heap.size := by have := r5.1; omega
       clear CT
       go_wp2_with (at_builtin; refine wpList_append_own _ rfl _ _ 28 rfl wt.heap.size 3 inf (.int .i64 0) 1 8 Tryz.underlying28 hi hz hz1 hz2 rfl (by decide) _ _ _ rfl (OQ.out.alloc _) ⟨w3.heap.size, 0, none⟩ 1 1 [.int .i64 t] rfl rfl (World.news_of_block (heap_alloc_new w3 (.cells [.int .i64 (t : Int)].toArray 3))) (by simp [Value.oneCell']) (by rw [lk]; simp only [maxLen]; omega) (by rw [lk]; omega) (by simp; omega) ?_)
       intro v7 wC ownC gC _
       have lb := ownI_block OQ.out
       have OC : OwnI wC wt.heap.size v7 (rows ++ [t]) := by
        show World.ownsRow _ _ _ _ _ _ _
        rw [List.map_append, List.length_append, lk]
        exact ownC
       have hkm : k - (i + 1) = m := by omega
       have A1 := x1 w3 (.cells [.int .i64 (t : Int)].toArray 3)
       have VC : Vec wC wx.heap.size [.slice (some ⟨g, 0, none⟩) m cap, .func (.func 29) #[.agg #[.int .i64 k, .int .i64 C, .slice pv N nv, .slice pk LN nk]] #[]] := vec_keep (r1.later A1) gC (fun e => by have := lb _ e.symm; omega)
       have NC : OwnN wC (wx.heap.size + 1) g m cap h3' := (ownN_later r2 A1).kept gC (Or.inr (fun e => by have := lb g e.symm; omega))
       have XC : Ext wx wC := (xt r6 A1).grown gC (xt r6 A1).size (fun z hz => by have := lb z hz; omega)
       obtain ⟨p7, c7, rfl, _⟩ := ownI_slice OC
       obtain ⟨n7, hn7⟩ : ∃ n7, (rows ++ [t]).length = n7 := ⟨_, rfl⟩
       have HN2 : Hid (∃ hh rows, OwnI wC wt.heap.size (.slice p7 n7 c7) rows ∧ rows.length = i + 1 ∧ Vec wC wx.heap.size [.slice (some ⟨g, 0, none⟩) (k - (i + 1)) cap, .func (.func 29) #[.agg #[.int .i64 k, .int .i64 C, .slice pv N nv, .slice pk LN nk]] #[]] ∧ OwnN wC (wx.heap.size + 1) g (k - (i + 1)) cap hh ∧ Taking (lessK (cmpRow l C ks)) k rows hh ∧ Ext wx wC ∧ wt.heap.size ≤ wC.heap.size) := by
        refine ⟨h3', rows ++ [t], by rw [← hn7]; exact OC, by rw [List.length_append, lk]; rfl, by rw [hkm]; exact VC, by rw [hkm]; exact NC, ?_, XC, Nat.le_trans hs3 (Nat.le_trans A1.size gC.size)⟩
        have := HQ.out.2.2.1.next HST.out (by rw [hhl]; omega) r3 (by rw [HT.out]; exact r4)
        rw [HT.out] at this
        exact this
       rw [hn7]
       clear ownC gC lb OQ OC VC NC XC A1 r1 r2 r3 r4 r5 r6 hi hz hz1 hz2 hn7 HQ
       go_wp2_with fail
       go_roundw
       case rel => exact ⟨i + 1, n7, c7, p7, by go_num, by omega, rfl, HN2⟩
       case measure => simp [intOf]; omega
      ·
       obtain rfl : i = k := by omega
       have j2 : ¬ (i : Int) < (i : Int) := by omega
       go_wp2_with fail
       go_ret
       obtain ⟨hh, rows, q1, q2, q3, q4, q5, q6, q7⟩ := HI.out
       have hhl := ownN_len q4
       obtain rfl : hh = [] := List.eq_nil_of_length_eq_zero (by omega)
       refine ⟨_, rfl, rows, ⟨ownI_nums q1, fun _ z hz => by have := ownI_block q1 z hz; omega, xt HBX0.out.2 q6⟩, HOK.out _ ?_⟩
       rw [HFx.out, if_pos rfl]
       have := q5.done
       rw [lessK_row] at this
       exact this
  ·
   have HF : Hid (sortG r c l ks = false) := by show _ = _; rw [HS.out]; simp
   go_enter Tryz.func10, Tryz.ntmps10
   go_wp2_with (first
    | (go_at_call 27; refine C0.mono ?_; rintro e w1 ⟨rfl, e1⟩)
    | (go_at_call 28; refine (CK w1 e1 h8).mono ?_; rintro e w2 ⟨rfl, e2⟩))
   go_ret
   exact ⟨_, [], rfl, ⟨nums_nil _, fun h => absurd h (by simp), xt X0 (xt e1 e2)⟩, HOK.out _ (by rw [HF.out]; rfl)⟩
 ·
  have HF : Hid (sortG r c l ks = false) := by show _ = _; rw [HS.out, decide_eq_false h8]; rfl
  have f8 : (8 : Int) < (LN : Int) := by omega
  have f8' : decide ((LN : Int) > 8) = true := decide_eq_true (by omega)
  go_enter Tryz.func10, Tryz.ntmps10
  go_wp2_with (go_at_call 27; refine C0.mono ?_; rintro e w1 ⟨rfl, e1⟩)
  go_ret
  exact ⟨_, [], rfl, ⟨nums_nil _, fun h => absurd h (by simp), xt X0 e1⟩, HOK.out _ (by rw [HF.out]; rfl)⟩

end Go.Proofs.YtlofnhhoopefcaaGreatDoor

