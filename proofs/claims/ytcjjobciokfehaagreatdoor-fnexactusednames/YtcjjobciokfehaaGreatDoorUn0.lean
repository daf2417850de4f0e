/-
  Rows of texts of one's own that grow; a text sought in one.
-/
import Derived.Test.YtcjjobciokfehaaGreatDoorMg31
import Derived.Test.YtcjjobciokfehaaGreatDoorMg2
namespace Go.Proofs.YtcjjobciokfehaaGreatDoor
open Go.RowKit

/-- A row of texts of one's own, that may grow. -/
abbrev OwnU (w : World) (base : Nat) (v : Value) (l : List (List UInt8)) : Prop := w.ownsRow base 9 1 v l.length (l.map sV)
theorem ownU_nil (w : World) (base : Nat) : OwnU w base (.slice none 0 0) [] := World.ownsRow_nil _ _ _ _
theorem ownU_lt {w : World} {base : Nat} {v : Value} {l : List (List UInt8)} (h : OwnU w base v l) : ∀ r, v.ownBlock = some r → base ≤ r ∧ r < w.heap.size := by
 intro r hr
 rcases h.2 with ⟨rfl, _⟩ | ⟨g, cap, cur, rfl, h2, h3, _⟩
 ·
  cases hr
 ·
  have : g = r := by simpa [Value.ownBlock] using hr
  subst this
  refine ⟨h2, ?_⟩
  rcases Nat.lt_or_ge g w.heap.size with h' | h'
  ·
   exact h'
  ·
   rw [Array.getElem?_eq_none h'] at h3; cases h3
theorem ownU_block {w w' : World} {base : Nat} {v : Value} {l : List (List UInt8)} (h : OwnU w base v l) (hx : ∀ r, v.ownBlock = some r → w'.heap[r]? = w.heap[r]?) : OwnU w' base v l := by
 refine ⟨h.1, h.2.imp id ?_⟩
 rintro ⟨g, cap, cur, rfl, h2, h3, h4⟩
 exact ⟨g, cap, cur, rfl, h2, by rw [hx g rfl]; exact h3, h4⟩
theorem ownU_later {w w' : World} {base : Nat} {v : Value} {l : List (List UInt8)} (h : OwnU w base v l) (hx : Ext w w') : OwnU w' base v l := ownU_block h fun r hr => hx.block r (ownU_lt h r hr).2
theorem ownU_slice {w : World} {base : Nat} {v : Value} {l : List (List UInt8)} (h : OwnU w base v l) : ∃ p c, v = .slice p l.length c ∧ l.length ≤ c := by
 rcases h.2 with ⟨rfl, h0⟩ | ⟨g, cap, cur, rfl, _, _, h3, _⟩
 ·
  exact ⟨none, 0, by rw [h0], by omega⟩
 ·
  exact ⟨_, _, rfl, h3⟩
theorem infoU : ∃ inf, Tryz.prog.info? 9 = some inf ∧ inf.zero = some (.string ByteArray.empty) ∧ inf.size = 1 ∧ inf.bytes ≤ 1000 := by
 have h : (Tryz.prog.info? 9).map (fun i => (i.zero, i.size, i.bytes)) = some (some (.string ByteArray.empty), 1, 16) := by kernel_rfl
 cases h' : Tryz.prog.info? 9 with
 | none => rw [h'] at h; cases h
 | some inf =>
  rw [h'] at h
  simp at h
  exact ⟨inf, rfl, h.1, h.2.1, by rw [h.2.2]; omega⟩
/-- One more text. -/
theorem app_txt (w : World) (base : Nat) (v : Value) (l : List (List UInt8)) (O : OwnU w base v l) (s : List UInt8) (b : Nat) (V : w.rangeAt b 0 [sV s]) (hl : l.length ≤ 900000) (hb : base ≤ w.heap.size) :
  ∃ v' w', (Builtin.append_ #[34, 34] 34 #[v, .slice (some ⟨b, 0, none⟩) 1 1]).run Tryz.prog w = .ok v' w' ∧ OwnU w' base v' (l ++ [s]) ∧ w.grownBy w' v.ownBlock ∧ (v'.ownBlock = v.ownBlock ∨ v'.ownBlock = some w.heap.size) := by
 obtain ⟨inf, hi, hz, hsz, hby⟩ := infoU
 obtain ⟨v', w', hrun, O', GW, hbl⟩ := app_srcB (P := Tryz.prog) w base 34 34 34 9 inf (.string ByteArray.empty) Tryz.underlying34 hi hz 1 hsz hby rfl v l.length _ O (.slice (some ⟨b, 0, none⟩) 1 1) 1 [sV s]
  (Src.ofSlice (size := 1) w Tryz.underlying34 ⟨b, 0, none⟩ 1 1 [sV s] rfl (fun j u hj => by rw [Addr.add_lit]; exact V j u hj) (fun u hu => by
   simp only [List.mem_cons, List.not_mem_nil, or_false] at hu
   subst hu
   rfl)) (by omega) hb
 refine ⟨v', w', hrun, ?_, GW, hbl⟩
 show World.ownsRow _ _ _ _ _ _ _
 rw [List.length_append, List.map_append]
 exact O'
theorem ownU_own {w : World} {base : Nat} {v : Value} {l : List (List UInt8)} (h : OwnU w base v l) (hb : base < w.heap.size) : ∃ b, TxtsOwn w v l b ∧ base ≤ b ∧ b < w.heap.size := by
 rcases h.2 with ⟨rfl, h0⟩ | ⟨g, cap, cur, rfl, h2, h3, h4, h5, h6, h7⟩
 ·
  have hl : l = [] := List.eq_nil_of_length_eq_zero h0
  subst hl
  exact ⟨base, ⟨none, 0, rfl, Nat.le_refl _, fun h => (by cases h), fun i u hu => (by cases hu)⟩, Nat.le_refl _, hb⟩
 ·
  have hg : g < w.heap.size := (ownU_lt h g rfl).2
  refine ⟨g, ⟨_, cap, rfl, h4, fun _ => rfl, fun i u hu => ?_⟩, h2, hg⟩
  have hh := h7
  have hi : i < (l.map sV).length := (List.getElem?_eq_some_iff.1 hu).1
  rw [← h7, List.getElem?_take_of_lt (by rw [h7.symm, List.length_take] at hi; omega)] at hu
  have hu2 : cur[i]? = some u := by rw [← Array.getElem?_toList]; exact hu
  constructor
  ·
   unfold World.cell?
   simp only [h3]
   exact hu2
  ·
   unfold World.frozen?
   simp only [h3]
   rfl
theorem ownU_txts {w : World} {base : Nat} {v : Value} {l : List (List UInt8)} (h : OwnU w base v l) : TxtsIn w v l := by
 rcases h.2 with ⟨rfl, h0⟩ | ⟨g, cap, cur, rfl, h2, h3, h4, h5, h6, h7⟩
 ·
  have hl : l = [] := List.eq_nil_of_length_eq_zero h0
  subst hl
  exact ⟨none, 0, rfl, Nat.le_refl _, fun h => by cases h⟩
 ·
  refine ⟨_, cap, rfl, h4, fun _ => ⟨g, 0, rfl, fun i e hi => ?_⟩⟩
  have := h.cells (g := g) rfl i (sV e) (by rw [List.getElem?_map, hi]; rfl)
  rw [Addr.add_lit] at this
  exact this
set_option maxRecDepth 8000 in
set_option maxHeartbeats 1000000 in
theorem inU (v : Value) (L : List (List UInt8)) (l : List UInt8) (w : World) (h : TxtsIn w v L) (hL : L.length ≤ 1048576) :
  Calls Tryz.prog 34 #[v, sV l] w fun e w' => e = .returned (.bool (memB L l)) ∧ Ext w w' := by
 obtain ⟨p, cap, rfl, hcap, hi⟩ := h
 obtain ⟨n, hn⟩ : ∃ n, L.length = n := ⟨_, rfl⟩
 have HN : Hid (L.length = n) := hn
 rw [hn] at hL hcap hi ⊢
 have HI : Hid (0 < n → ∃ b o, p = some ⟨b, o, none⟩ ∧ ∀ i e, L[i]? = some e → w.cell? ⟨b, o + i, none⟩ = some (sV e)) := hi
 have HY : Hid (∀ t (k : Nat), L[k]? = some t → (t == l) = true → memB L l = true) := fun t k h e => memB_yes h e
 have HX : Hid ((∀ (j : Nat) t, L[j]? = some t → (t == l) = false) → memB L l = false) := fun h => memB_no h
 obtain ⟨R, hR⟩ : ∃ R, memB L l = R := ⟨_, rfl⟩
 rw [hR] at HY HX ⊢
 clear hn hi hR
 go_enter Tryz.func34, Tryz.ntmps34
 go_wp2_with fail
 go_loopw [9] (fun i wr => ∃ k : Nat, k ≤ n ∧ i = .int .i64 k ∧ Hid (Ext w wr ∧ ∀ (j : Nat) t, j < k → L[j]? = some t → (t == l) = false)) (fun i _ => n - (intOf i).toNat)
 case atStart => exact ⟨0, by omega, rfl, xr _, fun j t hj => by omega⟩
 case round =>
  obtain ⟨k, hk, rfl, HA⟩ := hrel
  by_cases hlt : k < n
  ·
   obtain ⟨t, ht⟩ : ∃ t, L[k]? = some t := ⟨_, List.getElem?_eq_getElem (by rw [HN.out]; exact hlt)⟩
   obtain ⟨b, o, rfl, hc⟩ := HI.out (by omega)
   have a0 := cell_later HA.out.1 (hc k t ht)
   have i2 : (k : Int) < (n : Int) := by omega
   obtain ⟨p, hp⟩ : ∃ p, (t == l) = p := ⟨_, rfl⟩
   clear hc
   cases p
   ·
    have HA2 : Hid (Ext w wr ∧ ∀ (j : Nat) t, j < k + 1 → L[j]? = some t → (t == l) = false) := ⟨HA.out.1, fun j t' hj h => by
     rcases Nat.lt_or_ge j k with hjk | hjk
     ·
      exact HA.out.2 j t' hjk h
     ·
      obtain rfl : j = k := by omega
      rw [ht] at h
      cases h
      exact hp⟩
    clear HA ht
    go_wp2_with fail
    go_roundw
    case rel => exact ⟨k + 1, by omega, by go_num, HA2⟩
    case measure => simp [intOf]; omega
   ·
    obtain rfl := HY.out t k ht hp
    have HE : Hid (Ext w wr) := HA.out.1
    clear HA ht
    go_wp2_with fail
    go_ret
    exact ⟨rfl, HE.out⟩
  ·
   obtain rfl : k = n := by omega
   obtain rfl := HX.out (fun j t h => HA.out.2 j t (by have := (List.getElem?_eq_some_iff.1 h).1; rw [HN.out] at this; exact this) h)
   have HE : Hid (Ext w wr) := HA.out.1
   clear HA
   go_wp2_with fail
   go_ret
   exact ⟨rfl, HE.out⟩
set_option maxRecDepth 8000 in
set_option maxHeartbeats 1000000 in
theorem indexT (v : Value) (L : List (List UInt8)) (l : List UInt8) (w : World) (h : TxtsIn w v L) (hL : L.length ≤ 1048576) :
  Calls Tryz.prog 54 #[v, sV l] w fun e w' => ((e = .returned (.int .i64 (-1)) ∧ memB L l = false) ∨ ∃ m : Nat, e = .returned (.int .i64 m) ∧ memB L l = true ∧ m < 1048576) ∧ Ext w w' := by
 obtain ⟨p, cap, rfl, hcap, hi⟩ := h
 obtain ⟨n, hn⟩ : ∃ n, L.length = n := ⟨_, rfl⟩
 have HN : Hid (L.length = n) := hn
 rw [hn] at hL hcap hi ⊢
 have HI : Hid (0 < n → ∃ b o, p = some ⟨b, o, none⟩ ∧ ∀ i e, L[i]? = some e → w.cell? ⟨b, o + i, none⟩ = some (sV e)) := hi
 have HY : Hid (∀ t (k : Nat), L[k]? = some t → (t == l) = true → memB L l = true) := fun t k h e => memB_yes h e
 have HX : Hid ((∀ (j : Nat) t, L[j]? = some t → (t == l) = false) → memB L l = false) := fun h => memB_no h
 obtain ⟨R, hR⟩ : ∃ R, memB L l = R := ⟨_, rfl⟩
 rw [hR] at HY HX ⊢
 clear hn hi hR
 go_enter Tryz.func54, Tryz.ntmps54
 go_wp2_with fail
 go_loopw [8] (fun i wr => ∃ k : Nat, k ≤ n ∧ i = .int .i64 k ∧ Hid (Ext w wr ∧ ∀ (j : Nat) t, j < k → L[j]? = some t → (t == l) = false)) (fun i _ => n - (intOf i).toNat)
 case atStart => exact ⟨0, by omega, rfl, xr _, fun j t hj => by omega⟩
 case round =>
  obtain ⟨k, hk, rfl, HA⟩ := hrel
  by_cases hlt : k < n
  ·
   obtain ⟨t, ht⟩ : ∃ t, L[k]? = some t := ⟨_, List.getElem?_eq_getElem (by rw [HN.out]; exact hlt)⟩
   obtain ⟨b, o, rfl, hc⟩ := HI.out (by omega)
   have a0 := cell_later HA.out.1 (hc k t ht)
   have i2 : (k : Int) < (n : Int) := by omega
   obtain ⟨p, hp⟩ : ∃ p, (t == l) = p := ⟨_, rfl⟩
   have hp2 : (l == t) = p := by rw [← hp]; exact Bool.eq_iff_iff.2 ⟨fun e => by have := eq_of_beq e; subst this; exact beq_self_eq_true _, fun e => by have := eq_of_beq e; subst this; exact beq_self_eq_true _⟩
   clear hc
   cases p
   ·
    have HA2 : Hid (Ext w wr ∧ ∀ (j : Nat) t, j < k + 1 → L[j]? = some t → (t == l) = false) := ⟨HA.out.1, fun j t' hj h => by
     rcases Nat.lt_or_ge j k with hjk | hjk
     ·
      exact HA.out.2 j t' hjk h
     ·
      obtain rfl : j = k := by omega
      rw [ht] at h
      cases h
      exact hp⟩
    clear HA ht hp
    go_wp2_with fail
    go_roundw
    case rel => exact ⟨k + 1, by omega, by go_num, HA2⟩
    case measure => simp [intOf]; omega
   ·
    have HT : Hid (R = true) := HY.out t k ht hp
    have HE : Hid (Ext w wr) := HA.out.1
    clear HA ht hp
    go_wp2_with fail
    go_ret
    exact ⟨Or.inr ⟨k, rfl, HT.out, by omega⟩, HE.out⟩
  ·
   obtain rfl : k = n := by omega
   have HT : Hid (R = false) := HX.out (fun j t h => HA.out.2 j t (by have := (List.getElem?_eq_some_iff.1 h).1; rw [HN.out] at this; exact this) h)
   have HE : Hid (Ext w wr) := HA.out.1
   clear HA
   go_wp2_with fail
   go_ret
   exact ⟨Or.inl ⟨rfl, HT.out⟩, HE.out⟩
theorem containsT (v : Value) (L : List (List UInt8)) (l : List UInt8) (w : World) (h : TxtsIn w v L) (hL : L.length ≤ 1048576) :
  Calls Tryz.prog 37 #[v, sV l] w fun e w' => e = .returned (.bool (memB L l)) ∧ Ext w w' := by
 have C0 := indexT v L l w h hL
 obtain ⟨pk, nk, rfl, _, _⟩ := h
 obtain ⟨R, hR⟩ : ∃ R, memB L l = R := ⟨_, rfl⟩
 rw [hR] at C0 ⊢
 obtain ⟨n, hn⟩ : ∃ n, L.length = n := ⟨_, rfl⟩
 rw [hn] at C0 hL ⊢
 clear hR hn
 go_enter Tryz.func37, Tryz.ntmps37
 go_wp2_with fail
 refine C0.mono ?_
 rintro e w1 ⟨⟨rfl, rfl⟩ | ⟨m, rfl, rfl, hm⟩, e1⟩
 ·
  go_wp2_with fail
  go_ret
  exact ⟨rfl, e1⟩
 ·
  have m0 : (0 : Int) ≤ (m : Int) := by omega
  have m1 : decide ((m : Int) ≥ 0) = true := decide_eq_true m0
  go_wp2_with fail
  go_ret
  exact ⟨rfl, e1⟩

end Go.Proofs.YtcjjobciokfehaaGreatDoor

