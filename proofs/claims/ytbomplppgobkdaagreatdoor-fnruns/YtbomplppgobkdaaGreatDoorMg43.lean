/-
  Several texts in one: Qr, Ru7, X9h, Ru6, Ru3.
-/
import Derived.Test.YtbomplppgobkdaaGreatDoorMg41
import Derived.Test.YtbomplppgobkdaaGreatDoorMg42
import Derived.Test.YtbomplppgobkdaaGreatDoorMg33
import Derived.Test.YtbomplppgobkdaaGreatDoorMg34
import Derived.Test.YtbomplppgobkdaaGreatDoorMg35
import Derived.Test.YtbomplppgobkdaaGreatDoorMg32
import Derived.Test.YtbomplppgobkdaaGreatDoorMg40
import Derived.Test.YtbomplppgobkdaaGreatDoorMg27
namespace Go.Proofs.YtbomplppgobkdaaGreatDoor
open Go.RowKit

/-- A grid and keys that can be put in order. -/
def sortG (r c : Int) (l : List VT) (ks : List YT) : Bool := goodG r c l && decide (ks.length ≤ 8) && !(ks.any fun k => decide (k.cl < 1 ∨ c < k.cl))
/-- What SortRows answers. -/
def SortOK (r c : Int) (l : List VT) (ks : List YT) (S : List Nat) : Prop := if sortG r c l ks then InOrder (lessR l c.toNat ks) r.toNat S else S = []
theorem lessK_row (l : List VT) (c : Nat) (ks : List YT) : lessK (cmpRow l c ks) = lessR l c ks := funext fun _ => funext fun _ => cmpRow_less
set_option maxRecDepth 8000 in
set_option maxHeartbeats 4000000 in
theorem sortI (r c : Int) (v kv : Value) (l : List VT) (ks : List YT) (w : World) (h : ValsIn w v l) (hk : SortKeysIn w kv ks) (hl : l.length ≤ 1048576) (hkl : ks.length ≤ 1048576) (hr : ∀ e ∈ l, e.room) (hT : Tens w) (hE : ErrTab w) :
    Calls Tryz.prog 9 #[grV r c v, kv] w fun e w' => ∃ ans S, e = .returned ans ∧ AnsI w w' ans S ∧ SortOK r c l ks S := by
  have X0 := x1 w (.cells #[.int .i64 r, .int .i64 c, v] 25)
  have B0 := vec_made w [.int .i64 r, .int .i64 c, v] 25
  have S0 : (w.alloc (.cells #[.int .i64 r, .int .i64 c, v] 25)).heap.size = w.heap.size + 1 := by rw [World.size_alloc]
  change Vec (w.alloc (.cells #[.int .i64 r, .int .i64 c, v] 25)) _ _ at B0
  obtain ⟨u0, hu0⟩ : ∃ u, w.alloc (.cells #[.int .i64 r, .int .i64 c, v] 25) = u := ⟨_, rfl⟩
  rw [hu0] at X0 B0 S0
  have C0 := goodGI r c v l u0 (h.later X0) (by omega) (fun e he => (hr e he).1) (fun e he => (hr e he).2) (hT.later X0) (hE.later X0)
  have HV : Hid (ValsIn w v l ∧ SortKeysIn w kv ks) := ⟨h, hk⟩
  have HTE : Hid (Tens w ∧ ErrTab w ∧ ∀ e ∈ l, e.room) := ⟨hT, hE, hr⟩
  have HG : Hid (goodG r c l = true → (∃ R C : Nat, r = R ∧ c = C ∧ l.length = R * C ∧ R * C ≤ 2000 ∧ 1 ≤ R ∧ 1 ≤ C ∧ R ≤ 2000 ∧ C ≤ 2000) ∧ ∀ e ∈ l, e.good = true) := fun h => ⟨good_dims h, (goodG_all h).2.1⟩
  obtain ⟨pv, nv, rfl⟩ : ∃ p n, v = .slice p l.length n := by obtain ⟨p, n, h, _⟩ := h; exact ⟨p, n, h⟩
  obtain ⟨pk, nk, rfl⟩ : ∃ p n, kv = .slice p ks.length n := by obtain ⟨p, n, h, _⟩ := hk; exact ⟨p, n, h⟩
  have HK : Hid (∀ W, Ext u0 W → ks.length ≤ 8 → Calls Tryz.prog 24 #[.slice pk ks.length nk, .func (.func 21) #[] #[.pointer (some ⟨w.heap.size, 0, none⟩)]] W fun e w' => e = .returned (.bool (ks.any fun k => decide (k.cl < 1 ∨ c < k.cl))) ∧ Ext W w') := fun W hW h8 =>
    containsKI _ _ _ ks _ W ⟨enters_of Tryz.func21 (by kernel_rfl) rfl, fun W' e hW' => lackingI r c _ e _ W' (B0.later (xt hW hW')) ⟨_, _, _, rfl⟩⟩ (HV.out.2.later (xt X0 hW)) (by omega)
  have HS : Hid (sortG r c l ks = (goodG r c l && decide (ks.length ≤ 8) && !(ks.any fun k => decide (k.cl < 1 ∨ c < k.cl)))) := rfl
  have HOK : Hid (∀ S, (if sortG r c l ks then InOrder (lessR l c.toNat ks) r.toNat S else S = []) → SortOK r c l ks S) := fun S h => h
  obtain ⟨LN, hLN⟩ : ∃ LN, ks.length = LN := ⟨_, rfl⟩
  obtain ⟨N, hN⟩ : ∃ N, l.length = N := ⟨_, rfl⟩
  have HN : Hid (l.length = N ∧ ks.length = LN) := ⟨hN, hLN⟩
  obtain ⟨G, hG⟩ : ∃ G, goodG r c l = G := ⟨_, rfl⟩
  obtain ⟨Y, hY⟩ : ∃ Y, (ks.any fun k => decide (k.cl < 1 ∨ c < k.cl)) = Y := ⟨_, rfl⟩
  have HY : Hid ((ks.any fun k => decide (k.cl < 1 ∨ c < k.cl)) = Y) := hY
  rw [hG, hLN, hY] at HS
  rw [hY, hLN] at HK
  rw [hG] at C0 HG
  rw [hN] at C0 B0 hu0 HV HG hl ⊢
  rw [hLN] at HV hkl ⊢
  obtain ⟨a0, a1, a2⟩ := Vec.three B0
  clear h hk hr hT hE hG hY hN hLN
  cases G
  · have HF : Hid (sortG r c l ks = false) := by show _ = _; rw [HS.out]; rfl
    go_enter Tryz.func9, Tryz.ntmps9
    go_wp2_with (go_at_call 23; refine C0.mono ?_; rintro e w1 ⟨rfl, e1⟩)
    go_ret
    exact ⟨_, [], rfl, ⟨nums_nil _, fun h => absurd h (by simp), xt X0 e1⟩, HOK.out _ (by rw [HF.out]; rfl)⟩
  by_cases h8 : LN ≤ 8
  · have f8 : ¬ (8 : Int) < (LN : Int) := by omega
    have f8' : decide ((LN : Int) > 8) = false := decide_eq_false (by omega)
    have CK := HK.out
    cases Y
    · have HF : Hid (sortG r c l ks = true) := by show _ = _; rw [HS.out, decide_eq_true h8]; rfl
      obtain ⟨⟨R, C, rfl, rfl, hlen, h3, h4, h5, h6, h7⟩, hgd⟩ := HG.out rfl
      have HGD : Hid (∀ e ∈ l, e.good = true) := hgd
      have HLN : Hid (N = R * C) := hlen
      have HKO : Hid (KeysOK C ks) := fun k hk => by
        have := (List.any_eq_false.1 HY.out) k hk
        simp only [decide_eq_true_eq, not_or, Int.not_lt] at this
        exact this
      have hst := fun (W : World) (q : Addr) => run_store Tryz.prog W q (.func (.func 25) #[.agg #[.int .i64 R, .int .i64 C, .slice pv N nv, .slice pk LN nk]] #[]) Mode.plain rfl
      clear HG hgd hlen HS HY
      go_enter Tryz.func9, Tryz.ntmps9
      go_wp2_with (first
        | (go_at_call 23; refine C0.mono ?_; rintro e w1 ⟨rfl, e1⟩)
        | (go_at_call 24; refine (CK w1 e1 h8).mono ?_; rintro e wx ⟨rfl, e2⟩; obtain ⟨a0, a1, a2⟩ := Vec.three (B0.later (xt e1 e2)); have d0 := (((B0.later (xt e1 e2)).later (x1 wx (.cells #[.slice none 0 0, .func (.func 25) #[.agg #[.int .i64 R, .int .i64 C, .slice pv N nv, .slice pk LN nk]] #[]] 62))) 0 _ rfl).1))
      have BX := B0.later (xt e1 e2)
      have XX := xt X0 (xt e1 e2)
      have HO0 : Hid (Orders wx 25 #[.agg #[.int .i64 R, .int .i64 C, .slice pv N nv, .slice pk LN nk]] R (cmpRow l C ks)) := by
        refine ⟨enters_of Tryz.func25 (by kernel_rfl) rfl, fun W x y hW hx hy => ?_⟩
        have hYW := xt XX hW
        exact compareRowI R C _ _ l ks x y W (HV.out.1.later hYW) (HV.out.2.later hYW) (by rw [HN.out.1, HLN.out]) (by rw [HN.out.1, HLN.out]; exact h3) hx hy HKO.out (by rw [HN.out.2]; exact h8) h7 h6 HTE.out.2.2 (HTE.out.1.later hYW) (HTE.out.2.1.later hYW)
      have HST : Hid (Strict (lessK (cmpRow l C ks))) := by show Strict _; rw [lessK_row]; exact lessR_strict HGD.out _ _
      have HB := vec_made wx [.slice none 0 0, .func (.func 25) #[.agg #[.int .i64 R, .int .i64 C, .slice pv N nv, .slice pk LN nk]] #[]] 62
      change Vec (wx.alloc (.cells #[.slice none 0 0, .func (.func 25) #[.agg #[.int .i64 R, .int .i64 C, .slice pv N nv, .slice pk LN nk]] #[]] 62)) _ _ at HB
      have HBX := x1 wx (.cells #[.slice none 0 0, .func (.func 25) #[.agg #[.int .i64 R, .int .i64 C, .slice pv N nv, .slice pk LN nk]] #[]] 62)
      obtain ⟨wh, hwh⟩ : ∃ wh, wx.alloc (.cells #[.slice none 0 0, .func (.func 25) #[.agg #[.int .i64 R, .int .i64 C, .slice pv N nv, .slice pk LN nk]] #[]] 62) = wh := ⟨_, rfl⟩
      rw [hwh] at HB HBX ⊢
      have HW0 : Hid (∃ items hh, Vec wh wx.heap.size [items, .func (.func 25) #[.agg #[.int .i64 R, .int .i64 C, .slice pv N nv, .slice pk LN nk]] #[]] ∧ OwnI wh (wx.heap.size + 1) items hh ∧ HeapOK (lessK (cmpRow l C ks)) hh ∧ hh.Perm (List.range 0) ∧ Ext wx wh) :=
        ⟨_, [], HB, ownI_nil _ _, fun i _ hi => absurd hi (by simp), List.Perm.refl _, HBX⟩
      have HBX0 : Hid (Vec wx w.heap.size [.int .i64 R, .int .i64 C, .slice pv N nv] ∧ Ext w wx) := ⟨BX, XX⟩
      have lwx : w.heap.size < wx.heap.size := vec_lt BX (by simp)
      have HFx : Hid (sortG (R : Int) (C : Int) l ks = true) := HF
      clear a0 a1 a2 d0 hwh hst C0 CK HK BX XX HB HBX HKO HTE HV HGD HF HLN e1 e2 X0 B0
      go_loopw [30] (fun s wr => ∃ k : Nat, s = .int .i64 k ∧ k ≤ R ∧ Hid (∃ items hh, Vec wr wx.heap.size [items, .func (.func 25) #[.agg #[.int .i64 R, .int .i64 C, .slice pv N nv, .slice pk LN nk]] #[]] ∧ OwnI wr (wx.heap.size + 1) items hh ∧ HeapOK (lessK (cmpRow l C ks)) hh ∧ hh.Perm (List.range k) ∧ Ext wx wr)) (fun s _ => R - (intOf s).toNat)
      case atStart => exact ⟨0, rfl, by omega, HW0⟩
      case round =>
        obtain ⟨k, rfl, hk, HI⟩ := hrel
        by_cases hlt : k < R
        · have i2 : (k : Int) < (R : Int) := by omega
          obtain ⟨items, hh, q1, q2, q3, q4, q5⟩ := HI.out
          have CP := putI wx 25 _ R _ HO0.out HST.out wx.heap.size items hh k wr q5 (Nat.le_refl _) q1 q2 q3 (fun y hy => by have := List.mem_range.1 (q4.subset hy); omega) hlt (by rw [q4.length_eq, List.length_range]; omega)
          have HPq : Hid (hh.Perm (List.range k)) := q4
          clear q1 q2 q3 q4 q5 HI HW0
          go_wp2_with fail
          refine CP.mono ?_
          rintro e w2 ⟨rfl, ⟨it2, h2, r1, r2, r3, r4⟩, r5⟩
          have HN2 : Hid (∃ items hh, Vec w2 wx.heap.size [items, .func (.func 25) #[.agg #[.int .i64 R, .int .i64 C, .slice pv N nv, .slice pk LN nk]] #[]] ∧ OwnI w2 (wx.heap.size + 1) items hh ∧ HeapOK (lessK (cmpRow l C ks)) hh ∧ hh.Perm (List.range (k + 1)) ∧ Ext wx w2) :=
            ⟨it2, h2, r1, r2, r3, by
              rw [List.range_succ]
              exact r4.trans ((List.Perm.cons _ HPq.out).trans (List.perm_append_singleton _ _).symm), r5⟩
          clear CP r1 r2 r3 r4 r5
          go_wp2_with fail
          go_roundw
          case rel => exact ⟨k + 1, by go_num, by omega, HN2⟩
          case measure => simp [intOf]; omega
        · obtain rfl : k = R := by omega
          have i2 : ¬ (k : Int) < (k : Int) := by omega
          obtain ⟨items, hh, q1, q2, q3, q4, q5⟩ := HI.out
          have hhl : hh.length = k := by rw [q4.length_eq, List.length_range]
          obtain ⟨g, cap, rfl⟩ : ∃ g c, items = .slice (some ⟨g, 0, none⟩) k c := by
            rcases q2.2 with ⟨_, e⟩ | ⟨g, c, _, e, _⟩
            · omega
            · exact ⟨g, c, by rw [e, hhl]⟩
          have o2 : OwnN wr (wx.heap.size + 1) g k cap hh := by
            have := q2
            rw [show OwnI wr (wx.heap.size + 1) (.slice (some ⟨g, 0, none⟩) k cap) hh = wr.ownsRow (wx.heap.size + 1) 3 1 (.slice (some ⟨g, 0, none⟩) k cap) hh.length (hh.map numV) from rfl, hhl] at this
            exact this
          obtain ⟨wt, hwt⟩ : ∃ wt, wt = wr := ⟨_, rfl⟩
          subst hwt
          have gl : g < wt.heap.size := (o2.lt g rfl).2
          have hl2 : wx.heap.size < wt.heap.size := vec_lt q1 (by simp)
          have d0 := ((HBX0.out.1.later q5) 0 _ rfl).1
          have HT0 : Hid (∃ hh rows, OwnI wt wt.heap.size (.slice none 0 0) rows ∧ rows.length = 0 ∧ Vec wt wx.heap.size [.slice (some ⟨g, 0, none⟩) (k - 0) cap, .func (.func 25) #[.agg #[.int .i64 k, .int .i64 C, .slice pv N nv, .slice pk LN nk]] #[]] ∧ OwnN wt (wx.heap.size + 1) g (k - 0) cap hh ∧ Taking (lessK (cmpRow l C ks)) k rows hh ∧ Ext wx wt ∧ wt.heap.size ≤ wt.heap.size) :=
            ⟨hh, [], ownI_nil _ _, rfl, q1, o2, Taking.start q3 q4, q5, Nat.le_refl _⟩
          clear HI HW0 q1 q2 q3 q4 q5 o2 hhl
          go_wp2_with fail
          clear d0
          go_loopw [8, 38] (fun s8 s38 wr => ∃ (i n2 c2 : Nat) (p2 : Option Addr), s38 = .int .i64 i ∧ i ≤ k ∧ s8 = .slice p2 n2 c2 ∧ Hid (∃ hh rows, OwnI wr wt.heap.size (.slice p2 n2 c2) rows ∧ rows.length = i ∧ Vec wr wx.heap.size [.slice (some ⟨g, 0, none⟩) (k - i) cap, .func (.func 25) #[.agg #[.int .i64 k, .int .i64 C, .slice pv N nv, .slice pk LN nk]] #[]] ∧ OwnN wr (wx.heap.size + 1) g (k - i) cap hh ∧ Taking (lessK (cmpRow l C ks)) k rows hh ∧ Ext wx wr ∧ wt.heap.size ≤ wr.heap.size)) (fun _ s38 _ => k - (intOf s38).toNat)
          case atStart => exact ⟨0, 0, 0, none, rfl, by omega, rfl, HT0⟩
          case round =>
            obtain ⟨i, n2, c2, p2, rfl, hik, rfl, HI⟩ := hrel
            by_cases hlt : i < k
            · have j2 : (i : Int) < (k : Int) := by omega
              obtain ⟨hh, rows, q1, q2, q3, q4, q5, q6, q7⟩ := HI.out
              obtain ⟨m, hm⟩ : ∃ m, k - i = m + 1 := ⟨k - i - 1, by omega⟩
              rw [hm] at q3 q4
              have hhl := ownN_len q4
              have CT := takeI wx 25 _ k _ HO0.out HST.out wx.heap.size g cap m hh wr q6 (Nat.le_refl _) q3 q4 q5.heap (fun y hy => List.mem_range.1 (q5.all.subset (List.mem_append_right _ hy))) (by omega)
              have HQ : Hid (OwnI wr wt.heap.size (.slice p2 n2 c2) rows ∧ rows.length = i ∧ Taking (lessK (cmpRow l C ks)) k rows hh ∧ Ext wx wr) := ⟨q1, q2, q5, q6⟩
              obtain ⟨t, ht⟩ : ∃ t, nth hh 0 = t := ⟨_, rfl⟩
              have HT : Hid (nth hh 0 = t) := ht
              rw [ht] at CT
              clear q1 q2 q3 q4 q5 q6 HI HT0 ht
              go_wp2_with fail
              refine CT.mono ?_
              rintro e w3 ⟨rfl, ⟨h3', r1, r2, r3, r4⟩, r5, r6⟩
              have OQ : Hid (OwnI w3 wt.heap.size (.slice p2 n2 c2) rows) := ownI_only2 HQ.out.1 r5 hl2 gl
              have lk : rows.length = i := HQ.out.2.1
              obtain ⟨inf, hi, hz, hz1, hz2⟩ := infoI
              have hs3 : wt.heap.size ≤ w3.heap.size := by have := r5.1; omega
              clear CT
              go_wp2_with (at_builtin; refine wpList_append_own _ rfl _ _ 28 rfl wt.heap.size 3 inf (.int .i64 0) 1 8 Tryz.underlying28 hi hz hz1 hz2 rfl (by decide) _ _ _ rfl (OQ.out.alloc _) ⟨w3.heap.size, 0, none⟩ 1 1 [.int .i64 t] rfl rfl (World.news_of_block (heap_alloc_new w3 (.cells [.int .i64 (t : Int)].toArray 3))) (by simp [Value.oneCell']) (by rw [lk]; simp only [maxLen]; omega) (by rw [lk]; omega) (by simp; omega) ?_)
              intro v7 wC ownC gC _
              have lb := ownI_block OQ.out
              have OC : OwnI wC wt.heap.size v7 (rows ++ [t]) := by
                show World.ownsRow _ _ _ _ _ _ _
                rw [List.map_append, List.length_append, lk]
                exact ownC
              have hkm : k - (i + 1) = m := by omega
              have A1 := x1 w3 (.cells [.int .i64 (t : Int)].toArray 3)
              have VC : Vec wC wx.heap.size [.slice (some ⟨g, 0, none⟩) m cap, .func (.func 25) #[.agg #[.int .i64 k, .int .i64 C, .slice pv N nv, .slice pk LN nk]] #[]] := vec_keep (r1.later A1) gC (fun e => by have := lb _ e.symm; omega)
              have NC : OwnN wC (wx.heap.size + 1) g m cap h3' := (ownN_later r2 A1).kept gC (Or.inr (fun e => by have := lb g e.symm; omega))
              have XC : Ext wx wC := (xt r6 A1).grown gC (xt r6 A1).size (fun z hz => by have := lb z hz; omega)
              obtain ⟨p7, c7, rfl, _⟩ := ownI_slice OC
              obtain ⟨n7, hn7⟩ : ∃ n7, (rows ++ [t]).length = n7 := ⟨_, rfl⟩
              have HN2 : Hid (∃ hh rows, OwnI wC wt.heap.size (.slice p7 n7 c7) rows ∧ rows.length = i + 1 ∧ Vec wC wx.heap.size [.slice (some ⟨g, 0, none⟩) (k - (i + 1)) cap, .func (.func 25) #[.agg #[.int .i64 k, .int .i64 C, .slice pv N nv, .slice pk LN nk]] #[]] ∧ OwnN wC (wx.heap.size + 1) g (k - (i + 1)) cap hh ∧ Taking (lessK (cmpRow l C ks)) k rows hh ∧ Ext wx wC ∧ wt.heap.size ≤ wC.heap.size) := by
                refine ⟨h3', rows ++ [t], by rw [← hn7]; exact OC, by rw [List.length_append, lk]; rfl, by rw [hkm]; exact VC, by rw [hkm]; exact NC, ?_, XC, Nat.le_trans hs3 (Nat.le_trans A1.size gC.size)⟩
                have := HQ.out.2.2.1.next HST.out (by rw [hhl]; omega) r3 (by rw [HT.out]; exact r4)
                rw [HT.out] at this
                exact this
              rw [hn7]
              clear ownC gC lb OQ OC VC NC XC A1 r1 r2 r3 r4 r5 r6 hi hz hz1 hz2 hn7 HQ
              go_wp2_with fail
              go_roundw
              case rel => exact ⟨i + 1, n7, c7, p7, by go_num, by omega, rfl, HN2⟩
              case measure => simp [intOf]; omega
            · obtain rfl : i = k := by omega
              have j2 : ¬ (i : Int) < (i : Int) := by omega
              go_wp2_with fail
              go_ret
              obtain ⟨hh, rows, q1, q2, q3, q4, q5, q6, q7⟩ := HI.out
              have hhl := ownN_len q4
              obtain rfl : hh = [] := List.eq_nil_of_length_eq_zero (by omega)
              refine ⟨_, rfl, rows, ⟨ownI_nums q1, fun _ z hz => by have := ownI_block q1 z hz; omega, xt HBX0.out.2 q6⟩, HOK.out _ ?_⟩
              rw [HFx.out, if_pos rfl]
              have := q5.done
              rw [lessK_row] at this
              exact this
    · have HF : Hid (sortG r c l ks = false) := by show _ = _; rw [HS.out]; simp
      go_enter Tryz.func9, Tryz.ntmps9
      go_wp2_with (first
        | (go_at_call 23; refine C0.mono ?_; rintro e w1 ⟨rfl, e1⟩)
        | (go_at_call 24; refine (CK w1 e1 h8).mono ?_; rintro e w2 ⟨rfl, e2⟩))
      go_ret
      exact ⟨_, [], rfl, ⟨nums_nil _, fun h => absurd h (by simp), xt X0 (xt e1 e2)⟩, HOK.out _ (by rw [HF.out]; rfl)⟩
  · have HF : Hid (sortG r c l ks = false) := by show _ = _; rw [HS.out, decide_eq_false h8]; rfl
    have f8 : (8 : Int) < (LN : Int) := by omega
    have f8' : decide ((LN : Int) > 8) = true := decide_eq_true (by omega)
    go_enter Tryz.func9, Tryz.ntmps9
    go_wp2_with (go_at_call 23; refine C0.mono ?_; rintro e w1 ⟨rfl, e1⟩)
    go_ret
    exact ⟨_, [], rfl, ⟨nums_nil _, fun h => absurd h (by simp), xt X0 e1⟩, HOK.out _ (by rw [HF.out]; rfl)⟩

/-- Rows put in order by one column rising. -/
theorem sorted_pairs {l : List VT} {C x R : Nat} {S : List Nat} (h : InOrder (lessR l C [⟨(x : Int), false⟩]) R S) :
    S.Pairwise fun a b => standB (cel l (a * C + (x - 1))) (cel l (b * C + (x - 1))) 1 ≤ 0 := by
  refine h.1.imp fun {a b} hab => ?_
  rw [lessR_iff] at hab
  have e : ∀ i, celK l C i ⟨(x : Int), false⟩ = cel l (i * C + (x - 1)) := fun i => by simp [celK]
  have s : sgnK ⟨(x : Int), false⟩ = 1 := rfl
  simp only [lexK, e, s] at hab
  split at hab <;> omega
theorem rowsT_at (l : List VT) (C : Nat) : ∀ (S : List Nat) (j i : Nat), j < S.length → i < C → cel (rowsT l C S) (j * C + i) = cel l (S.getD j 0 * C + i)
  | s :: S, 0, i, _, hi => by
    show cel (rowT l C s ++ rowsT l C S) (0 * C + i) = cel l (s * C + i)
    unfold cel
    rw [Nat.zero_mul, Nat.zero_add, List.getD_eq_getElem?_getD, List.getElem?_append_left (by rw [rowT_length]; exact hi)]
    simp [rowT, hi, cel]
  | s :: S, j + 1, i, hj, hi => by
    have ih := rowsT_at l C S j i (by simpa using hj) hi
    show cel (rowT l C s ++ rowsT l C S) ((j + 1) * C + i) = cel l (S.getD j 0 * C + i)
    rw [← ih]
    unfold cel
    rw [List.getD_eq_getElem?_getD, List.getElem?_append_right (by rw [rowT_length, Nat.add_mul]; omega), rowT_length, List.getD_eq_getElem?_getD]
    congr 2
    rw [Nat.add_mul]
    omega
theorem rowsT_mem {l : List VT} {C R : Nat} {S : List Nat} (hl : l.length = R * C) (hS : ∀ s ∈ S, s < R) : ∀ e ∈ rowsT l C S, e ∈ l := by
  intro e he
  obtain ⟨s, hs, h⟩ := List.mem_flatMap.1 he
  obtain ⟨j, hj, rfl⟩ := List.mem_map.1 h
  have hj := List.mem_range.1 hj
  have h1 := Nat.mul_le_mul_right C (hS s hs)
  rw [Nat.succ_mul] at h1
  exact cel_mem (by rw [hl]; omega)
theorem rowsT_good {l : List VT} {C R : Nat} {S : List Nat} (hg : goodG R C l = true) (hl : l.length = R * C) (hS : ∀ s ∈ S, s < R) (hn : S.length = R) : goodG R C (rowsT l C S) = true := by
  unfold goodG at hg ⊢
  rw [Bool.and_eq_true] at hg ⊢
  refine ⟨?_, ?_⟩
  · rw [rowsT_length, hn, ← hl]; exact hg.1
  · rw [List.all_eq_true] at hg ⊢
    exact fun e he => hg.2 e (rowsT_mem hl hS e he)
/-- Of what is not empty: the grid is good, the column is one of its. -/
theorem runsR_some {r c : Int} {l : List VT} {x : Int} (h : runsR r c l x ≠ []) : goodG r c l = true ∧ 1 ≤ x ∧ x ≤ c := by
  unfold runsR rowsR at h
  split at h
  · next hc =>
    rw [Bool.and_eq_true] at hc
    refine ⟨hc.1, ?_⟩
    have := hc.2
    simp at this
    omega
  · exact absurd rfl h
theorem runsR_is {R C x : Nat} {l : List VT} (hg : goodG R C l = true) (h1 : 1 ≤ x) (h2 : x ≤ C) : runsR R C l x = (List.range R).filter (runB (colL l C (x - 1) R)) := by
  unfold runsR rowsR
  rw [if_pos]
  · rfl
  · rw [hg]
    simp
    omega
theorem sortG_one {R C x : Nat} {l : List VT} (hg : goodG R C l = true) (h1 : 1 ≤ x) (h2 : x ≤ C) : sortG R C l [⟨(x : Int), false⟩] = true := by
  unfold sortG
  rw [hg]
  simp
  omega
theorem once_one {C x : Nat} (h1 : 1 ≤ x) (h2 : x ≤ C) : onceB C [(x : Int)] = true := by
  refine onceB_true fun i hi => ?_
  obtain rfl : i = 0 := by simp at hi; exact hi
  simp [okAt]
  omega
/-- Rows put in order have as many runs as there are groups. -/
theorem runs_told {R C x : Nat} {l : List VT} {S Ix : List Nat} (hg : goodG R C l = true) (hl : l.length = R * C) (h1 : 1 ≤ x) (h2 : x ≤ C) (hf : faultB l C x R = false) (hS : SortOK R C l [⟨(x : Int), false⟩] S) (hI : OrdG l C (colN [(x : Int)]) R Ix) :
    S.length = R ∧ (∀ s ∈ S, s < R) ∧ goodG R C (rowsT l C S) = true ∧ (runsR R C (rowsT l C S) x).length = Ix.length := by
  have hs : InOrder (lessR l C [⟨(x : Int), false⟩]) R S := by
    unfold SortOK at hS
    rw [if_pos (sortG_one hg h1 h2)] at hS
    exact hS
  have hn := hs.len
  have hlt : ∀ s ∈ S, s < R := fun s hs' => by simpa using hs.2.mem_iff.1 hs'
  have hG := rowsT_good hg hl hlt hn
  refine ⟨hn, hlt, hG, ?_⟩
  have hgood := (goodG_all hg).2.1
  rw [runsR_is hG h1 h2, runs_groups hgood hs.2 (fun j hj => rowsT_at l C S j (x - 1) (by omega) (by omega)) (fun i hi => ?_) (sorted_pairs hs)]
  · rw [hI.1.length_eq]
    rfl
  · intro h4
    have : faultB l C x R = true := by
      unfold faultB
      rw [List.any_eq_true]
      exact ⟨i, List.mem_range.2 hi, by simpa using h4⟩
    rw [hf] at this
    cases this

/-- What a grid's drawing promises. -/
def RepOK : Prop := ∀ (b base K : Nat) (w : World), Cur w b base K → K ≤ 100000 →
    Calls Tryz.prog 13 #[.pointer (some ⟨b, 0, none⟩)] w fun e w' => (∃ (R C : Int) (sv : Value) (l : List VT), e = .returned (grV R C sv) ∧ RowAt w' sv l.length (flatV l) ∧ l.length ≤ 32 ∧ (∀ q ∈ l, okE q) ∧ ∀ g, sv.ownBlock = some g → w.heap.size ≤ g) ∧ Cur w' b base (K + 2000) ∧ Only b w w'
set_option maxRecDepth 8000 in
set_option maxHeartbeats 4000000 in
theorem drawRunsC (HREP : RepOK) (v : Value) (n : Nat) (w : World) (h : CodeIn w w.heap.size v n) (hn : n ≤ 1048576) :
    Calls Tryz.prog 4 #[v] w fun e w' => (∃ (R C : Int) (sv : Value) (l : List VT) (x : Int), e = .returned (.tuple #[grV R C sv, .int .i64 x]) ∧ (0 ≤ x ∧ x < 4) ∧ ValsIn w' sv l ∧ l.length ≤ 32 ∧ ∀ q ∈ l, okE q) ∧ Ext w w' := by
  obtain ⟨p, nn, cap, rfl⟩ : ∃ p nn cap, v = .slice p nn cap := by
    rcases h with ⟨⟨p, cap, rfl⟩, _⟩ | ⟨pb, po, cap, _, rfl, _⟩
    · exact ⟨_, _, _, rfl⟩
    · exact ⟨_, _, _, rfl⟩
  have B0 := vec_made w [.int .i64 0, .int .i64 0, .slice none 0 0] 25
  have X := x1 w (.cells #[.int .i64 0, .int .i64 0, .slice none 0 0] 25)
  change Vec (w.alloc (.cells #[.int .i64 0, .int .i64 0, .slice none 0 0] 25)) _ _ at B0
  obtain ⟨u1, h1⟩ : ∃ q, w.alloc (.cells #[.int .i64 0, .int .i64 0, .slice none 0 0] 25) = q := ⟨_, rfl⟩
  rw [h1] at B0 X
  have s1 : u1.heap.size = w.heap.size + 1 := by rw [← h1, World.size_alloc]
  have CM := Cur.made u1 (.slice p nn cap) n w.heap.size 43 (h.only (Only.of_ext X (b := w.heap.size)) (Nat.le_refl _)) hn (by omega)
  have EM := x1 u1 (.cells #[.slice p nn cap, .int .i64 0, .int .u64 0] 43)
  obtain ⟨u2, h2⟩ : ∃ q, u1.alloc (.cells #[.slice p nn cap, .int .i64 0, .int .u64 0] 43) = q := ⟨_, rfl⟩
  rw [h2] at CM EM
  rw [s1] at CM
  have V0 := B0.later EM
  have X2 := xt X EM
  have s2 : u2.heap.size = w.heap.size + 1 + 1 := by rw [← h2, World.size_alloc, s1]
  go_enter Tryz.func4, Tryz.ntmps4
  go_wp2_with fail
  clear h1 h2 h hn
  refine (HREP (w.heap.size + 1) w.heap.size 0 u2 CM (by omega)).mono ?_
  rintro e w1 ⟨⟨R1, C1, sv1, l1, rfl, RA, hl1, hE1, lb1⟩, CC, o1⟩
  have V0 := o1.vecC (by omega) V0
  have XE := Only.ext X2 o1 (by omega)
  have z1 : u2.heap.size ≤ w1.heap.size := o1.size
  clear o1 X2 EM B0 X CM
  obtain ⟨p1, c1, hs1⟩ : ∃ p1 c1, sv1 = .slice p1 l1.length c1 := by obtain ⟨_, p1, c1, q, _⟩ := RA; exact ⟨p1, c1, q⟩
  obtain ⟨n1, hn1⟩ : ∃ n, l1.length = n := ⟨_, rfl⟩
  have HN1 : Hid (l1.length = n1) := hn1
  rw [hn1] at hs1 RA hl1
  subst hs1
  obtain ⟨wz, w2, hz, hy, BA, XO, ⟨zz0, zz1, zz2⟩, fz0, fz1, fz2⟩ := newG w1 R1 C1 p1 n1 c1
  have CC := CC.ext XO
  have V0 := V0.later XO
  have RA := RA.later XO
  have XE := xt XE XO
  go_upto_region 3 with fail
  clear hz hy zz0 zz1 zz2 fz0 fz1 fz2 XO hn1
  obtain ⟨ga, hga⟩ : ∃ g, w1.heap.size = g := ⟨_, rfl⟩
  rw [hga] at BA z1 ⊢
  refine wp_region_letters (fun lx : Nat → Value => { tmps := #[Value.slice p nn cap, undef, Value.pointer (some ⟨w.heap.size, 0, none⟩), lx 3, Value.pointer (some ⟨w.heap.size + 1, 0, none⟩), Value.pointer (some ⟨ga, 0, none⟩), Value.slice p nn cap, Value.agg #[Value.slice p nn cap, Value.int .i64 0, Value.int IntKind.u64 0], Value.pointer (some ⟨w.heap.size + 1, 0, none⟩), Value.pointer (some ⟨w.heap.size + 1, 0, none⟩), grV R1 C1 (Value.slice p1 n1 c1), lx 11, lx 12, lx 13], defers := [] }) (fun L lx lw => Hid (Ext w lw ∧ Cur lw (w.heap.size + 1) w.heap.size (0 + 2000 + (if L 2 = true then 2 else 0)) ∧ Vec lw ga [.int .i64 R1, .int .i64 C1, .slice p1 n1 c1] ∧ (L 3 = false → Vec lw w.heap.size [.int .i64 0, .int .i64 0, .slice none 0 0]) ∧ (L 3 = true → Vec lw w.heap.size [.int .i64 R1, .int .i64 C1, .slice p1 n1 c1]) ∧ RowAt lw (.slice p1 n1 c1) n1 (flatV l1) ∧ (L 0 = true → lx 11 = Value.agg #[.int .i64 R1, .int .i64 C1, .slice p1 n1 c1]) ∧ (L 1 = true → lx 12 = Value.pointer (some ⟨w.heap.size + 1, 0, none⟩)) ∧ (L 2 = true → ∃ z : Int, lx 13 = .int .i64 z ∧ 0 ≤ z ∧ z < 4) ∧ (L 4 = true → ∃ z : Int, lx 3 = .int .i64 z ∧ 0 ≤ z ∧ z < 4) ∧ ga < lw.heap.size)) rfl (by kernel_rfl) (fun jj => if jj = 3 then Value.int .i64 0 else undef) rfl ?_ ?_ ?_
  · have DD := xd (xr w2)
    exact ⟨xt XE DD, CC.ext DD, BA.later DD, (fun _ => V0.later DD), (fun z => by cases z), RA.later DD, (fun z => by cases z), (fun z => by cases z), (fun z => by cases z), (fun z => by cases z), World.block_lt_of_cell? _ _ ((BA.later DD) 0 _ rfl).1⟩
  · intro L lx wl i o K1 hK ho hL haf hI
    obtain ⟨f0, f1, f2, f3, f4, f5, f6, f7, f8, f9, f10⟩ := hI.out
    match i, ho, hL, haf, hK with
    | 0, ho, hL, haf, hK =>
      cases ho
      (try dsimp only)
      obtain ⟨a0, a1, a2⟩ := Vec.three f2
      go_wp2_with fail
      exact hK (fun jj => if jj = 11 then Value.agg #[.int .i64 R1, .int .i64 C1, .slice p1 n1 c1] else lx jj) _ ⟨f0, f1, f2, f3, f4, f5, (fun _ => rfl), f7, f8, f9, f10⟩
    | 1, ho, hL, haf, hK =>
      cases ho
      (try dsimp only)
      go_wp2_with fail
      exact hK (fun jj => if jj = 12 then Value.pointer (some ⟨w.heap.size + 1, 0, none⟩) else lx jj) _ ⟨f0, f1, f2, f3, f4, f5, f6, (fun _ => rfl), f8, f9, f10⟩
    | 2, ho, hL, haf, hK =>
      cases ho
      (try dsimp only)
      rw [f7 (haf ⟨1, .data⟩ (by simp) rfl)]
      go_wp2_with fail
      have CW := f1
      rw [hL] at CW
      refine (pickC (w.heap.size + 1) w.heap.size _ 4 wl CW (by split <;> omega) (by omega) (by omega)).mono ?_
      rintro rr w' ⟨z, rfl, zb, CC, o⟩
      go_wp2_with fail
      exact hK (fun jj => if jj = 13 then .int .i64 z else if jj = 12 then Value.pointer (some ⟨w.heap.size + 1, 0, none⟩) else lx jj) _ ⟨(Only.ext f0 o (by omega)), (CC.more (by show _ ≤ 0 + 2000 + 2; decide)), (o.vecC (by omega) f2), (fun z => o.vecC (by omega) (f3 z)), (fun z => o.vecC (by omega) (f4 z)), (f5.only o (fun q hq => by have := lb1 q hq; omega)), f6, (fun _ => rfl), (fun _ => ⟨z, rfl, zb⟩), f9, (Nat.lt_of_lt_of_le f10 o.size)⟩
    | 3, ho, hL, haf, hK =>
      cases ho
      (try dsimp only)
      have bx := f3 hL
      rw [f6 (haf ⟨0, .data⟩ (by simp) rfl)]
      obtain ⟨b0, b1, b2⟩ := Vec.three bx
      obtain ⟨fb0, fb1, fb2⟩ := Vec.threeF bx
      have hX := Ext.setL (b := w.heap.size) (by omega) [.int .i64 R1, .int .i64 C1, .slice p1 n1 c1] 0 f0
      have hB := bx.put3 (.int .i64 R1) (.int .i64 C1) (.slice p1 n1 c1)
      have q1 : RowAt (setL wl (w.heap.size) 0 [.int .i64 R1, .int .i64 C1, .slice p1 n1 c1]) (.slice p1 n1 c1) l1.length (flatV l1) := RowAt.far (by rw [HN1.out]; exact f5) bx [.int .i64 R1, .int .i64 C1, .slice p1 n1 c1]
      rw [HN1.out] at q1
      have CF := ((f1.far (g := w.heap.size) (i := 0) (by omega) (by omega) (.int .i64 R1)).far (g := w.heap.size) (i := 1) (by omega) (by omega) (.int .i64 C1)).far (g := w.heap.size) (i := 2) (by omega) (by omega) (.slice p1 n1 c1)
      have q3 := ((f2.far (p := ⟨w.heap.size, 0, none⟩) (by show w.heap.size ≠ _; omega) (.int .i64 R1)).far (p := ⟨w.heap.size, 1, none⟩) (by show w.heap.size ≠ _; omega) (.int .i64 C1)).far (p := ⟨w.heap.size, 2, none⟩) (by show w.heap.size ≠ _; omega) (.slice p1 n1 c1)
      go_wp2_with fail
      exact hK (fun jj => if jj = 11 then Value.agg #[.int .i64 R1, .int .i64 C1, .slice p1 n1 c1] else lx jj) _ ⟨(hX), (CF), (q3), (fun h => by cases h), (fun _ => hB), (q1), (fun _ => rfl), f7, f8, f9, (by simp only [World.size_setCell]; exact f10)⟩
    | 4, ho, hL, haf, hK =>
      cases ho
      (try dsimp only)
      obtain ⟨z, ez, zb⟩ := f8 (haf ⟨2, .data⟩ (by simp) rfl)
      rw [ez]
      go_wp2_with fail
      exact hK (fun jj => if jj = 3 then .int .i64 z else if jj = 13 then .int .i64 z else lx jj) _ ⟨f0, f1, f2, f3, f4, f5, f6, f7, (fun _ => ⟨z, rfl, zb⟩), (fun _ => ⟨z, rfl, zb⟩), f10⟩
    | k + 5, ho, _, _, _ => simp at ho
  · intro L lx w9 hall hI
    obtain ⟨f0, f1, f2, f3, f4, f5, f6, f7, f8, f9, f10⟩ := hI.out
    clear hI
    have W0 := f4 (hall 3 (by simp))
    obtain ⟨z, e4, zb⟩ := f9 (hall 4 (by simp))
    have v1 : ValsIn w9 (.slice p1 n1 c1) l1 := RowAt.vals (by rw [HN1.out]; exact f5)
    have XF := f0
    (try dsimp only)
    rw [e4]
    obtain ⟨a0, a1, a2⟩ := Vec.three W0
    clear hall f0 f1 f2 f3 f4 f5 f6 f7 f8 f9 f10
    go_wp2_with fail
    exact bodyPost_ret (v := .tuple #[grV R1 C1 (.slice p1 n1 c1), .int .i64 z]) (by simp [results, Tryz.results4, go_sem, a0, a1, a2]) rfl ⟨⟨_, _, _, l1, z, rfl, zb, v1, by rw [HN1.out]; exact hl1, hE1⟩, XF⟩

set_option maxHeartbeats 1000000 in
theorem rowsOfS (R C : Nat) (v u : Value) (l : List VT) (S : List Nat) (w : World) (h : ValsIn w v l) (hlen : l.length = R * C) (h2 : R * C ≤ 2000) (hC : 1 ≤ C) (hR : R ≤ 2000) (hu : NumsAt w u S) (hS : ∀ s ∈ S, s < R) (hSl : S.length ≤ 2000) :
    Calls Tryz.prog 10 #[grV R C v, u] w fun e w' => ∃ sv, e = .returned (grV S.length C sv) ∧ OwnW w' w.heap.size sv (rowsT l C S) ∧ Ext w w' := by
  have CI : Hid (∀ W, Ext w W → Calls Tryz.prog 28 #[grV R C v, u] W fun e w' => ∃ sv, e = .returned (grV S.length C sv) ∧ OwnW w' W.heap.size sv (rowsT l C S) ∧ Ext W w') := fun W x => l7RowsS R C v u l S W (h.later x) hlen h2 hC hR (hu.later x) hS hSl
  obtain ⟨n, hn⟩ : ∃ n, S.length = n := ⟨_, rfl⟩
  rw [hn] at CI ⊢
  clear h hu hS hSl hlen h2 hn
  obtain ⟨u0, u1, u2, g0, g1, g2, s0, s1, s2, B0, B1, B2, X⟩ := mkB3 w [.int .i64 R, .int .i64 C, v] [.int .i64 0, .int .i64 0, .slice none 0 0] [.int .i64 0, .int .i64 0, .slice none 0 0] 25 25 25
  change w.alloc (.cells #[.int .i64 R, .int .i64 C, v] 25) = u0 at g0
  change u0.alloc (.cells #[.int .i64 0, .int .i64 0, .slice none 0 0] 25) = u1 at g1
  have V0 := vec_made w [.int .i64 R, .int .i64 C, v] 25
  change Vec (w.alloc (.cells #[.int .i64 R, .int .i64 C, v] 25)) _ _ at V0
  rw [g0] at V0
  have V1 := vec_made u0 [.int .i64 0, .int .i64 0, .slice none 0 0] 25
  change Vec (u0.alloc (.cells #[.int .i64 0, .int .i64 0, .slice none 0 0] 25)) _ _ at V1
  rw [g1, s0] at V1
  have X1 := x1 u0 (.cells #[.int .i64 0, .int .i64 0, .slice none 0 0] 25)
  rw [g1] at X1
  have X0 := x1 w (.cells #[.int .i64 R, .int .i64 C, v] 25)
  rw [g0] at X0
  obtain ⟨a0, a1, a2⟩ := Vec.three (V0.later X1)
  have HX : Hid (Vec u1 (w.heap.size + 1) [.int .i64 0, .int .i64 0, .slice none 0 0] ∧ Ext w u1 ∧ u1.heap.size = w.heap.size + 1 + 1) := ⟨V1, xt X0 X1, s1⟩
  clear V0 V1 X0 X1 B0 B1 B2 X g2 s2 s1
  go_enter Tryz.func10, Tryz.ntmps10
  go_wp2_with fail
  refine (CI.out u1 HX.out.2.1).mono ?_
  rintro e w1 ⟨sv, rfl, OW, E1⟩
  obtain ⟨pq, nq, cq, hq⟩ := ownW_slice OW
  subst hq
  rw [HX.out.2.2] at OW
  have HW : Hid (OwnW w1 (w.heap.size + 1 + 1) (.slice pq nq cq) (rowsT l C S)) := OW
  have V9 := HX.out.1.later E1
  have X9 := xt HX.out.2.1 E1
  obtain ⟨wy, hy, FX, ⟨z0, z1, z2⟩, ⟨fz0, fz1, fz2⟩, fd0, fd1, fd2⟩ := finG V9 X9 (by omega) n C (.slice pq nq cq)
  have FO : Hid (OwnW wy w.heap.size (.slice pq nq cq) (rowsT l C S)) := by
    have o1 := ownW_far HW.out (p := ⟨w.heap.size + 1, 0, none⟩) (by show w.heap.size + 1 < _; omega) (.int .i64 n)
    have o2 := ownW_far o1 (p := ⟨w.heap.size + 1, 1, none⟩) (by show w.heap.size + 1 < _; omega) (.int .i64 C)
    have o3 := ownW_far o2 (p := ⟨w.heap.size + 1, 2, none⟩) (by show w.heap.size + 1 < _; omega) (.slice pq nq cq)
    show World.ownsRow _ _ _ _ _ _ _
    rw [← hy]
    exact ownW_base o3 (by omega)
  clear V9 OW a0 a1 a2 g0 g1
  go_wp2_with fail
  exact bodyPost_ret (v := grV n C (.slice pq nq cq)) (by simp [results, Tryz.results10, go_sem, fd0, fd1, fd2]) rfl ⟨_, rfl, FO.out, FX⟩

theorem num_ints {w : World} {u : Value} {S : List Nat} (h : NumsAt w u S) : ∃ p cap, u = .slice p S.length cap ∧ S.length ≤ cap ∧ (0 < S.length → ∃ b, p = some ⟨b, 0, none⟩ ∧ ∀ i, i < S.length → w.cell? ⟨b, i, none⟩ = some (.int .i64 (S.getD i 0))) := by
  obtain ⟨p, cap, rfl, hc, hr⟩ := h
  refine ⟨p, cap, rfl, hc, fun h0 => ?_⟩
  obtain ⟨g, rfl, V⟩ := hr h0
  refine ⟨g, rfl, fun i hi => ?_⟩
  have e : S[i]? = some (S.getD i 0) := by rw [List.getD_eq_getElem?_getD, List.getElem?_eq_getElem hi]; rfl
  exact (V i (numV (S.getD i 0)) (by rw [List.getElem?_map, e]; rfl)).1
set_option maxHeartbeats 1000000 in
theorem zIntsL (u v : Value) (l : List Nat) (w : World) (hu : NumsAt w u l) (hv : NumsAt w v l) (hl : l.length ≤ 1048576) :
    Calls Tryz.prog 6 #[u, v] w fun e w' => e = .returned (.bool true) ∧ Ext w w' := by
  obtain ⟨p, cap, rfl, hcap, hi⟩ := num_ints hu
  obtain ⟨p2, cap2, rfl, hcap2, hi2⟩ := num_ints hv
  obtain ⟨L, hL⟩ : ∃ L, l.length = L := ⟨_, rfl⟩
  rw [hL] at hl hcap hcap2 hi hi2 ⊢
  have H1 : Hid (0 < L → ∃ b, p = some ⟨b, 0, none⟩ ∧ ∀ i, i < L → w.cell? ⟨b, i, none⟩ = some (.int .i64 (l.getD i 0))) := hi
  have H2 : Hid (0 < L → ∃ b, p2 = some ⟨b, 0, none⟩ ∧ ∀ i, i < L → w.cell? ⟨b, i, none⟩ = some (.int .i64 (l.getD i 0))) := hi2
  clear hL hi hi2 hu hv
  go_enter Tryz.func6, Tryz.ntmps6
  go_wp2_with fail
  go_loopw [13] (fun i wr => ∃ k : Nat, k ≤ L ∧ i = .int .i64 k ∧ Ext w wr) (fun i _ => L - (intOf i).toNat)
  case atStart => exact ⟨0, by omega, rfl, xr _⟩
  case round =>
    obtain ⟨k, hk, rfl, X⟩ := hrel
    by_cases hlt : k < L
    · obtain ⟨b, rfl, hc⟩ := H1.out (by omega)
      obtain ⟨b2, rfl, hc2⟩ := H2.out (by omega)
      have c1 := cell_later X (hc k hlt)
      have c2 := cell_later X (hc2 k hlt)
      obtain ⟨f, hf⟩ : ∃ f, l.getD k 0 = f := ⟨_, rfl⟩
      rw [hf] at c1 c2
      have hlt' : (k : Int) < (L : Int) := by omega
      clear hc hc2 hf H1 H2
      go_wp2_with fail
      go_quiet (fail)
      go_wp2_with fail
      go_roundw
      case rel => exact ⟨k + 1, by omega, by go_num, ⟨X.os, X.tape, X.output, X.size, X.block⟩⟩
      case measure => simp [intOf]; omega
    · obtain rfl : k = L := by omega
      go_wp2_with fail
      go_ret
      exact ⟨rfl, X⟩

end Go.Proofs.YtbomplppgobkdaaGreatDoor

