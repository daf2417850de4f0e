/-
  Several texts in one: Qe, Qf.
-/
import Derived.Test.YtlofnhhoopefcaaGreatDoorMg11
import Derived.Test.YtlofnhhoopefcaaGreatDoorV6u
namespace Go.Proofs.YtlofnhhoopefcaaGreatDoor
open Go.RowKit

def sameQ (a b : VT) : Bool := decide (a.k = b.k ∧ a.n = b.n ∧ a.d = b.d ∧ a.x = b.x ∧ a.t = b.t)
def cmpQ (a b : VT) : Int := compareV a.k a.n a.d a.x a.t b.k b.n b.d b.x b.t
/-- Two cells are the same: the same kind, and Compare 0, or the same error. -/
def likeB (a b : VT) : Bool := decide (a.k = b.k) && (if a.k = 4 then sameQ a b else decide (cmpQ a b = 0))
set_option maxHeartbeats 1000000 in
theorem valQ_eql (k : Int) (n : Bool) (d x : Int) (t : List UInt8) (k' : Int) (n' : Bool) (d' x' : Int) (t' : List UInt8) (W : World) :
  (binOp BinOp.eql 70 (valV k n d x t) (valV k' n' d' x' t')).run Tryz.prog W = .ok (.bool (sameQ ⟨k, n, d, x, t⟩ ⟨k', n', d', x', t'⟩)) W := by
 unfold sameQ
 by_cases h : k = k' ∧ n = n' ∧ d = d' ∧ x = x' ∧ t = t'
 ·
  obtain ⟨rfl, rfl, rfl, rfl, rfl⟩ := h
  go_simp
 ·
  rw [decide_eq_false h]
  have H : Hid (¬ (k = k' ∧ n = n' ∧ d = d' ∧ x = x' ∧ t = t')) := h
  clear h
  go_simp
  intros
  have := H.out
  simp_all
/-- What is asked of a value's room. -/
def VT.room (e : VT) : Prop := e.t.length ≤ 2000000 ∧ -9223372036854775808 ≤ e.d ∧ e.d ≤ 9223372036854775807
set_option maxRecDepth 8000 in
set_option maxHeartbeats 2000000 in
theorem likeI (a b : VT) (w : World) (ha : a.room) (hb : b.room) (hT : Tens w) (hE : ErrTab w) :
  Calls Tryz.prog 38 #[a.val, b.val] w fun e w' => e = .returned (.bool (likeB a b)) ∧ Ext w w' := by
 obtain ⟨k, n, d, x, t⟩ := a
 obtain ⟨k', n', d', x', t'⟩ := b
 obtain ⟨u0, u1, h0, h1, s0, s1, B0, B1, X⟩ := mkB2 w (valL k n d x t) (valL k' n' d' x' t') 70 70
 have CC : Hid (∀ W, Ext w W → Calls Tryz.prog 58 #[valV k n d x t, valV k' n' d' x' t'] W fun e w' => e = .returned (.int .i64 (cmpQ ⟨k, n, d, x, t⟩ ⟨k', n', d', x', t'⟩)) ∧ Ext W w') := fun W hW => compareI k n d x t k' n' d' x' t' W ha.1 hb.1 ha.2.1 ha.2.2 hb.2.1 hb.2.2 (hT.later hW) (hE.later hW)
 have HC4 : Hid (k = 4 → cmpQ ⟨k, n, d, x, t⟩ ⟨k', n', d', x', t'⟩ = 2) := fun h => by subst h; unfold cmpQ compareV; rw [if_neg (fun q => q.2.2.1 rfl)]
 have EQ := fun W => valQ_eql k n d x t k' n' d' x' t' W
 obtain ⟨S, hS⟩ : ∃ S, sameQ ⟨k, n, d, x, t⟩ ⟨k', n', d', x', t'⟩ = S := ⟨_, rfl⟩
 obtain ⟨R, hR⟩ : ∃ R, cmpQ ⟨k, n, d, x, t⟩ ⟨k', n', d', x', t'⟩ = R := ⟨_, rfl⟩
 rw [hS] at EQ
 rw [hR] at CC HC4
 have HL : Hid (likeB ⟨k, n, d, x, t⟩ ⟨k', n', d', x', t'⟩ = (decide (k = k') && (if k = 4 then S else decide (R = 0)))) := by
  show _ = _
  unfold likeB
  rw [hS, hR]
 obtain ⟨Q, hQ⟩ : ∃ Q, likeB ⟨k, n, d, x, t⟩ ⟨k', n', d', x', t'⟩ = Q := ⟨_, rfl⟩
 rw [hQ] at HL ⊢
 clear hS hR hQ hT hE ha hb
 obtain ⟨a0, a1, a2, a3, a4⟩ := Vec.five B0
 obtain ⟨b0, b1, b2, b3, b4⟩ := Vec.five B1
 by_cases hk : k = k'
 ·
  subst hk
  by_cases hR : R = 0
  ·
   subst hR
   have h4 : k ≠ 4 := fun h => by have := HC4.out h; omega
   have HF : Hid (true = Q) := by show _ = _; rw [HL.out, if_neg h4]; simp
   have C0 := CC.out u1 X
   go_enter Tryz.func38, Tryz.ntmps38
   go_wp2_with (go_at_call 58; refine C0.mono ?_; rintro e w1 ⟨rfl, e1⟩)
   go_ret
   exact ⟨ret_bool HF.out, xt X e1⟩
  ·
   have C0 := CC.out u1 X
   have hRb : (R == 0) = false := by simpa using hR
   by_cases h4 : k = 4
   ·
    have HF : Hid (S = Q) := by show _ = _; rw [HL.out, if_pos h4]; simp
    subst h4
    have CE := fun W => isErrI 4 n d x t W
    go_enter Tryz.func38, Tryz.ntmps38
    go_wp2_with (first
     | (go_at_call 58; refine C0.mono ?_; rintro e w1 ⟨rfl, e1⟩; obtain ⟨a0, a1, a2, a3, a4⟩ := Vec.five (B0.later e1); obtain ⟨b0, b1, b2, b3, b4⟩ := Vec.five (B1.later e1))
     | (go_at_call 59; refine (CE w1).mono ?_; rintro e w2 ⟨rfl, e2⟩; obtain ⟨a0, a1, a2, a3, a4⟩ := Vec.five (B0.later (xt e1 e2)); obtain ⟨b0, b1, b2, b3, b4⟩ := Vec.five (B1.later (xt e1 e2))))
    go_ret
    exact ⟨ret_bool HF.out, xt X (xt e1 e2)⟩
   ·
    have HF : Hid (false = Q) := by show _ = _; rw [HL.out, if_neg h4]; simp [hR]
    have h4b : decide (k = 4) = false := decide_eq_false h4
    have h4c : (k == 4) = false := by simpa using h4
    have CE := fun W => isErrI k n d x t W
    go_enter Tryz.func38, Tryz.ntmps38
    go_wp2_with (first
     | (go_at_call 58; refine C0.mono ?_; rintro e w1 ⟨rfl, e1⟩; obtain ⟨a0, a1, a2, a3, a4⟩ := Vec.five (B0.later e1); obtain ⟨b0, b1, b2, b3, b4⟩ := Vec.five (B1.later e1))
     | (go_at_call 59; refine (CE w1).mono ?_; rintro e w2 ⟨rfl, e2⟩))
    go_ret
    exact ⟨ret_bool HF.out, xt X (xt e1 e2)⟩
 ·
  have hkb : (k == k') = false := by simpa using hk
  have HF : Hid (false = Q) := by show _ = _; rw [HL.out, decide_eq_false hk]; rfl
  go_enter Tryz.func38, Tryz.ntmps38
  go_wp2_with fail
  go_ret
  exact ⟨ret_bool HF.out, X⟩

/-- What a function value says of a column's rows. -/
structure Takes (w : World) (fi : Nat) (li : Array Value) (L : List VT) (q : Nat → Bool) : Prop where
  ent : ∀ args w, (callFunc fi args).run Tryz.prog w = .ok (.enter fi args) w
  says : ∀ W sv i, Ext w W → ValsIn W sv L → i < L.length → Calls Tryz.prog fi (#[sv, numV i] ++ li) W fun e w' => e = .returned (.bool (q i)) ∧ Ext W w'
set_option maxRecDepth 8000 in
set_option maxHeartbeats 2000000 in
theorem by1I (w : World) (fi : Nat) (li : Array Value) (L : List VT) (q : Nat → Bool) (T : Takes w fi li L q) (bi bc : Nat) (sv : Value) (W : World) (i : Nat) (X : Ext w W) (hV : ValsIn W sv L) (hi : i < L.length)
    (Bi : Vec W bi [.func (.func fi) #[] li]) (Bc : Vec W bc [sv]) :
    Calls Tryz.prog 57 #[numV i, .pointer (some ⟨bi, 0, none⟩), .pointer (some ⟨bc, 0, none⟩)] W fun e w' => e = .returned (.bool (!(q i))) ∧ Ext W w' := by
  have ent := T.ent
  have C0 := T.says W sv i X hV hi
  obtain ⟨R, hR⟩ : ∃ R, q i = R := ⟨_, rfl⟩
  rw [hR] at C0 ⊢
  have a0 := (Bi 0 _ rfl).1
  have b0 := (Bc 0 _ rfl).1
  obtain ⟨p, n, rfl⟩ : ∃ p n, sv = .slice p L.length n := by obtain ⟨p, n, h, _⟩ := hV; exact ⟨p, n, h⟩
  clear hR T hV Bi Bc
  go_enter Tryz.func57, Tryz.ntmps57
  go_wp2_with (go_at_fn fi; refine C0.mono ?_; rintro e w1 ⟨rfl, e1⟩)
  go_ret
  exact ⟨rfl, e1⟩

/-- The rows that are taken. -/
def rowsR (g : Bool) (r c x : Int) (q : Nat → Bool) : List Nat := if g && !decide (x < 1 ∨ c < x) then (List.range r.toNat).filter q else []
theorem rowsR_le {r c x : Int} {l : List VT} {q : Nat → Bool} : (rowsR (goodG r c l) r c x q).length ≤ 2000 := by
  unfold rowsR
  split
  · next h =>
    rw [Bool.and_eq_true] at h
    have := (goodG_all h.1).2.2.1
    have h2 := List.length_filter_le q (List.range r.toNat)
    rw [List.length_range] at h2
    omega
  · exact Nat.zero_le _
/-- An answer of numbers in memory of its own. -/
def AnsI (w w' : World) (v : Value) (l : List Nat) : Prop := NumsAt w' v l ∧ (0 < l.length → ∀ g, v.ownBlock = some g → w.heap.size ≤ g) ∧ Ext w w'
set_option maxRecDepth 8000 in
set_option maxHeartbeats 4000000 in
theorem rowsByI (r c : Int) (v : Value) (l : List VT) (x : Int) (fi : Nat) (li : Array Value) (q : Nat → Bool) (w : World) (h : ValsIn w v l) (hl : l.length ≤ 1048576) (hr : ∀ e ∈ l, e.room) (hT : Tens w) (hE : ErrTab w)
    (x1' : -9223372036854775808 ≤ x) (x2' : x ≤ 9223372036854775807) (T : goodG r c l = true → 1 ≤ x → x ≤ c → Takes w fi li (colL l c.toNat (x.toNat - 1) r.toNat) q) :
    Calls Tryz.prog 36 #[grV r c v, .int .i64 x, .func (.func fi) #[] li] w fun e w' => ∃ ans, e = .returned ans ∧ AnsI w w' ans (rowsR (goodG r c l) r c x q) := by
  obtain ⟨u0, u1, h0, h1, s0, s1, B0, B1, X⟩ := mkB2 w [.int .i64 r, .int .i64 c, v] [.func (.func fi) #[] li] 32 73
  have CG : Hid (∀ W, Ext w W → Calls Tryz.prog 27 #[grV r c v] W fun e w' => e = .returned (.bool (goodG r c l)) ∧ Ext W w') := fun W hW => goodGI r c v l W (h.later hW) (by omega) (fun e he => (hr e he).1) (fun e he => (hr e he).2) (hT.later hW) (hE.later hW)
  have CL := fun W => lacksI r c v x W
  have HV : Hid (ValsIn w v l) := h
  have HT : Hid (goodG r c l = true → 1 ≤ x → x ≤ c → Takes w fi li (colL l c.toNat (x.toNat - 1) r.toNat) q) := T
  have HR : Hid (rowsR (goodG r c l) r c x q = if goodG r c l && !decide (x < 1 ∨ c < x) then (List.range r.toNat).filter q else []) := rfl
  obtain ⟨RR, hRR⟩ : ∃ RR, rowsR (goodG r c l) r c x q = RR := ⟨_, rfl⟩
  rw [hRR] at HR ⊢
  have HG : Hid (goodG r c l = true → gsidesB r c l.length = true ∧ (1 ≤ r ∧ r ≤ 2000) ∧ 1 ≤ c ∧ c ≤ 2000) := fun h => ⟨(goodG_all h).1, (goodG_all h).2.2⟩
  obtain ⟨a0, a1, a2⟩ := Vec.three B0
  obtain ⟨G, hG⟩ : ∃ G, goodG r c l = G := ⟨_, rfl⟩
  rw [hG] at CG HT HR HG
  have C0 := CG.out u1 X
  clear hRR hG T h hT hE CG
  obtain ⟨pv, nv, rfl⟩ : ∃ p n, v = .slice p l.length n := by obtain ⟨p, n, h, _⟩ := HV.out; exact ⟨p, n, h⟩
  cases G
  · have HF : Hid ([] = RR) := by show _ = _; rw [HR.out]; rfl
    go_enter Tryz.func36, Tryz.ntmps36
    go_wp2_with (go_at_call 27; refine C0.mono ?_; rintro e w1 ⟨rfl, e1⟩)
    go_ret
    exact ⟨_, rfl, by rw [← HF.out]; exact ⟨nums_nil _, fun h => absurd h (by simp), xt X e1⟩⟩
  · by_cases hx : x < 1 ∨ c < x
    · have HF : Hid ([] = RR) := by show _ = _; rw [HR.out, decide_eq_true hx]; rfl
      rw [decide_eq_true hx] at CL
      go_enter Tryz.func36, Tryz.ntmps36
      go_wp2_with (first
        | (go_at_call 27; refine C0.mono ?_; rintro e w1 ⟨rfl, e1⟩; obtain ⟨a0, a1, a2⟩ := Vec.three (B0.later e1))
        | (go_at_call 26; refine (CL w1).mono ?_; rintro e w2 ⟨rfl, e2⟩))
      go_ret
      exact ⟨_, rfl, by rw [← HF.out]; exact ⟨nums_nil _, fun h => absurd h (by simp), xt X (xt e1 e2)⟩⟩
    · rw [decide_eq_false hx] at CL
      have hG := HG.out rfl
      have hs : 1 ≤ r ∧ 1 ≤ c ∧ r * c ≤ 2000 ∧ (l.length : Int) = r * c := of_decide_eq_true hG.1
      obtain ⟨r, rfl⟩ := Int.eq_ofNat_of_zero_le (show 0 ≤ r by omega)
      obtain ⟨c, rfl⟩ := Int.eq_ofNat_of_zero_le (show 0 ≤ c by omega)
      obtain ⟨x, rfl⟩ := Int.eq_ofNat_of_zero_le (show 0 ≤ x by omega)
      have hrc : l.length = r * c := by
        have h4 := hs.2.2.2
        have e : ((r * c : Nat) : Int) = (r : Int) * (c : Int) := by simp
        omega
      have hrc2 : l.length ≤ 2000 := by have := hs.2.2.1; omega
      have HF : Hid ((List.range r).filter q = RR) := by show _ = _; rw [HR.out, decide_eq_false hx]; rfl
      have TK := HT.out rfl (by omega) (by omega)
      rw [Int.toNat_natCast, Int.toNat_natCast, Int.toNat_natCast] at TK
      have HK : Hid (Takes w fi li (colL l c (x - 1) r) q) := TK
      have hx1 : ((x : Int) - 1) = ((x - 1 : Nat) : Int) := by omega
      obtain ⟨j, hj⟩ : ∃ j, x - 1 = j := ⟨_, rfl⟩
      rw [hj] at hx1 HK
      have j1 : j < c := by omega
      have r1 : r ≤ 2000 := by omega
      have r0 : 1 ≤ r := by omega
      have CC : Hid (∀ W, Ext w W → Calls Tryz.prog 54 #[grV r c (.slice pv l.length nv), .int .i64 j] W fun e w' => ∃ sv, e = .returned sv ∧ OwnW w' W.heap.size sv (colL l c j r) ∧ Ext W w') := fun W hW => columnI r c _ l j W (HV.out.later hW) hrc hrc2 j1 r1
      clear HT HR HG hG hs hrc hrc2 hl hr
      obtain ⟨N, hN⟩ : ∃ N, l.length = N := ⟨_, rfl⟩
      rw [hN] at CC C0 CL B0 a2 h0 ⊢
      have HVn : Hid (ValsIn w (.slice pv N nv) l) := by rw [← hN]; exact HV.out
      clear HV hN
      go_enter Tryz.func36, Tryz.ntmps36
      go_wp2_with (first
        | (go_at_call 27; refine C0.mono ?_; rintro e w1 ⟨rfl, e1⟩; obtain ⟨a0, a1, a2⟩ := Vec.three (B0.later e1))
        | (go_at_call 26; refine (CL w1).mono ?_; rintro e w2 ⟨rfl, e2⟩; obtain ⟨a0, a1, a2⟩ := Vec.three (B0.later (xt e1 e2)))
        | (go_at_call 54; refine (CC.out w2 (xt X (xt e1 e2))).mono ?_; rintro e w3 ⟨sv, rfl, OW, e3⟩; obtain ⟨ps, ns, cs, rfl⟩ := ownW_slice OW; have c0 := (((B0.later (xt e1 (xt e2 e3))).later (x1 w3 (.cells #[.slice ps ns cs] 30))) 0 _ rfl).1))
      have B3 := vec_made w3 [.slice ps ns cs] 30
      change Vec (w3.alloc (.cells #[.slice ps ns cs] 30)) _ _ at B3
      have X3 := x1 w3 (.cells #[.slice ps ns cs] 30)
      have S3 : (w3.alloc (.cells #[.slice ps ns cs] 30)).heap.size = w3.heap.size + 1 := by rw [World.size_alloc]
      obtain ⟨u3, hu3⟩ : ∃ u, w3.alloc (.cells #[.slice ps ns cs] 30) = u := ⟨_, rfl⟩
      rw [hu3] at B3 X3 S3 ⊢
      clear c0 hu3
      refine (fromI r u3 r1).mono ?_
      rintro e w4 ⟨sw, rfl, OI, e4⟩
      obtain ⟨pr, hpr⟩ : ∃ pr cr, sw = .slice pr r cr := by obtain ⟨p, n, h, _⟩ := ownI_slice OI; rw [List.length_range] at h; exact ⟨p, n, h⟩
      obtain ⟨cr, rfl⟩ := hpr
      obtain ⟨p', cap', hsl, hca, hvv⟩ := ownI_nums OI
      rw [List.length_range] at hsl hca hvv
      cases hsl
      obtain ⟨g, rfl, VG⟩ := hvv (by omega)
      have gb := ownI_block OI g rfl
      have X4 := xt X (xt e1 (xt e2 (xt e3 (xt X3 e4))))
      have sz3 : w3.heap.size ≤ u3.heap.size := by omega
      have RA : RowAt w4 (.slice ps ns cs) r (flatV (colL l c j r)) := by have := RowAt.of_row (ownW_later OW (xt X3 e4)); rwa [colL_length] at this
      have ltS : ∀ z, (Value.slice ps ns cs).ownBlock = some z → z < w3.heap.size := ownW_lt OW
      have Bi4 := B1.later (xt e1 (xt e2 (xt e3 (xt X3 e4))))
      have Bc4 := B3.later e4
      have lw : w.heap.size + 1 < w3.heap.size := by have := (xt e1 (xt e2 e3)).size; omega
      have CD : Hid (Calls Tryz.prog 55 #[.slice (some ⟨g, 0, none⟩) r cr, .func (.func 57) #[] #[.pointer (some ⟨w.heap.size + 1, 0, none⟩), .pointer (some ⟨w3.heap.size, 0, none⟩)]] w4 fun e w' =>
          ∃ m, e = .returned (.slice (some ⟨g, 0, none⟩) m cr) ∧ m = ((List.range r).filter fun x => !!(q x)).length ∧ Vec w' g (((List.range r).filter fun x => !!(q x)).map numV) ∧ w4.grownBy w' (some g)) := by
        have := deleteFI 57 #[.pointer (some ⟨w.heap.size + 1, 0, none⟩), .pointer (some ⟨w3.heap.size, 0, none⟩)] (List.range r) (fun x => !(q x))
          (fun W => Ext w W ∧ RowAt W (.slice ps ns cs) r (flatV (colL l c j r)) ∧ Vec W (w.heap.size + 1) [.func (.func fi) #[] li] ∧ Vec W w3.heap.size [.slice ps ns cs])
          ⟨enters_of Tryz.func57 (by kernel_rfl) rfl, fun W y hW hy => by
            have hyr : y < r := List.mem_range.1 hy
            exact by1I w fi li (colL l c j r) q HK.out _ _ _ W y hW.1 (by have := hW.2.1; rw [show r = (colL l c j r).length by rw [colL_length]] at this; exact RowAt.vals (by simpa [colL_length] using this)) (by rw [colL_length]; exact hyr) hW.2.2.1 hW.2.2.2,
           fun W W' hW hx => ⟨xt hW.1 hx, hW.2.1.later hx, hW.2.2.1.later hx, hW.2.2.2.later hx⟩⟩ g cr w4 VG (by rw [List.length_range]; exact hca) (by rw [List.length_range]; exact r1) ⟨X4, RA, Bi4, Bc4⟩
          (fun W k u hW => ⟨xset hW.1 (p := ⟨g, k, none⟩) (by show _ ≤ g; omega) u, hW.2.1.keep (grown_set (grown_refl W (some g)) u) (fun z _ hz => by have := ltS z hz; intro e; cases e; omega), hW.2.2.1.far (p := ⟨g, k, none⟩) (by show g ≠ _; omega) u, hW.2.2.2.far (p := ⟨g, k, none⟩) (by show g ≠ _; omega) u⟩)
        rw [List.length_range] at this
        exact this
      have HE : Hid (Ext w w4 ∧ w.heap.size ≤ g) := ⟨X4, by omega⟩
      clear VG RA Bi4 Bc4 B3 OI OW
      go_wp2_with fail
      refine CD.out.mono ?_
      rintro e w5 ⟨m, rfl, hm, VM, gM⟩
      have e2' : ((List.range r).filter fun x => !!(q x)) = (List.range r).filter q := by simp
      rw [e2'] at hm VM
      have HA : Hid (AnsI w w5 (.slice (some ⟨g, 0, none⟩) m cr) RR) := by
        have h5 := List.length_filter_le q (List.range r)
        rw [List.length_range] at h5
        refine ⟨⟨_, cr, by rw [← HF.out, hm], by rw [← HF.out]; omega, fun _ => ⟨g, rfl, by rw [← HF.out]; exact VM⟩⟩, fun _ z hz => ?_, HE.out.1.grown gM HE.out.1.size (fun z hz => ?_)⟩
        · cases hz; exact HE.out.2
        · cases hz; exact HE.out.2
      clear VM gM hm
      go_wp2_with fail
      go_ret
      exact ⟨_, rfl, HA.out⟩

end Go.Proofs.YtlofnhhoopefcaaGreatDoor

