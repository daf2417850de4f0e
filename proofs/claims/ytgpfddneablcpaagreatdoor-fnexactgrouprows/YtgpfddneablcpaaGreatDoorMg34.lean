/-
  Several texts in one: E19, E20, E23, E26.
-/
import Derived.Test.YtgpfddneablcpaaGreatDoorMg26
import Derived.Test.YtgpfddneablcpaaGreatDoorMg27
import Derived.Test.YtgpfddneablcpaaGreatDoorMg6
namespace Go.Proofs.YtgpfddneablcpaaGreatDoor
open Go.RowKit

/-- What is still to come. -/
def TodoQ (left : Lit → Bool) (T : List QT) : Prop := (T.Pairwise fun a b => kqOf a ≠ kqOf b) ∧ ∀ k, left k = T.any fun K => isKq K k
theorem TodoQ.none {left : Lit → Bool} {T : List QT} (h : TodoQ left T) (hl : ∀ k, left k = false) : T = [] := by
 cases T with
 | nil => rfl
 | cons e T =>
  have := h.2 (kqOf e)
  rw [hl, List.any_cons, isKq_iff.2 rfl] at this
  cases this
theorem TodoQ.some {left : Lit → Bool} {T : List QT} (h : TodoQ left T) {k : Lit} (hk : left k = true) : ∃ K ∈ T, kqOf K = k := by
 rw [h.2, List.any_eq_true] at hk
 obtain ⟨K, hK, hq⟩ := hk
 exact ⟨K, hK, isKq_iff.1 hq⟩
set_option maxRecDepth 20000 in
theorem TodoQ.next {left : Lit → Bool} {T : List QT} (h : TodoQ left T) {K : QT} (hI : InQ K) : TodoQ (fun z => left z && !z.sameKey (kqOf K)) (T.filter fun q => !isKq q (kqOf K)) := by
 refine ⟨h.1.filter _, fun k => ?_⟩
 show (left k && !k.sameKey (kqOf K)) = _
 rw [h.2, List.any_filter]
 by_cases q : k = kqOf K
 ·
  subst q
  rw [WideAt.sameKey_self (kqOf_lit hI), Bool.not_true, Bool.and_false]
  symm
  rw [List.any_eq_false]
  intro x _
  cases isKq x (kqOf K) <;> simp
 ·
  have : k.sameKey (kqOf K) = false := by
   cases p : k.sameKey (kqOf K) with
   | false => rfl
   | true => exact absurd (WideAt.sameKey_eq p) q
  rw [this, Bool.not_false, Bool.and_true]
  congr 1
  funext x
  cases p : isKq x k with
  | false => simp
  | true =>
   rw [isKq_false.2 (by rw [isKq_iff.1 p]; exact q)]
   rfl
theorem TodoQ.start {D : DataW Unit} {f : QT → Option GE} {T : List QT} (h : HoldsQ D f T) (hN : T.Nodup) (hI : ∀ K ∈ T, InQ K) : TodoQ (Maps.has D) T := by
 refine ⟨?_, h.2.1⟩
 refine List.Pairwise.imp_of_mem (fun {a b} ha hb hab q => hab (kqOf_inj (hI a ha) (hI b hb) q)) hN
/-- What comes up of the map under a key. -/
theorem HoldsQ.entry {D : DataW Unit} {f : QT → Option GE} {T : List QT} (h : HoldsQ D f T) {K : QT} (hK : InQ K) {e : GE} (he : f K = some e) {v : Value} {y : DataW Unit × List MemPlace}
  (hv : glR v = some y) (hat : ∀ z, D.atKey (kqOf K) z = y.1) : v = e.sl := by
 have h1 := hat .nil
 rw [h.2.2 K hK, he] at h1
 rcases glR_inv hv with ⟨rfl, e1⟩ | ⟨g, n, c, rfl, e1⟩
 ·
  rw [e1] at h1
  cases h1
 ·
  rw [e1] at h1
  simp [GE.d] at h1
  obtain ⟨a, b, c'⟩ := h1
  have a' : e.g = g := by omega
  have b' : e.ns.length = n := by omega
  have c'' : e.cp = c := by omega
  rw [← a', ← b', ← c'']

set_option maxRecDepth 8000 in
set_option maxHeartbeats 2000000 in
theorem markNumsG (v : Value) (l : List Nat) (n k0 : Nat) (w : World) (h : NumsAt w v l) (hl : l.length = n) (hn : n ≤ 1048576) (h1 : 1 ≤ k0) (h2 : k0 ≤ 900000) :
  Calls Tryz.prog 13 #[v, .int .i64 k0] w fun e w' => e = .returned (.int .i64 ((k0 + n : Nat) : Int)) ∧ NumsAt w' v (marksN k0 n) ∧ w.grownBy w' (if n = 0 then none else v.ownBlock) := by
 obtain ⟨p, cap, rfl, hcap, hp⟩ := h
 rw [hl] at hcap hp ⊢
 have HL : Hid (l.length = n) := hl
 have H2 : Hid (0 < n → ∃ g, p = some ⟨g, 0, none⟩ ∧ Vec w g (l.map numV)) := hp
 obtain ⟨row, hrow⟩ : ∃ q, (if n = 0 then none else (Value.slice p n cap).ownBlock) = q := ⟨_, rfl⟩
 have HRow : Hid ((if n = 0 then none else (Value.slice p n cap).ownBlock) = row) := hrow
 rw [hrow]
 clear hl hp hrow
 go_enter Tryz.func13, Tryz.ntmps13
 go_wp2_with fail
 go_loopw [1, 5] (fun q i wr => ∃ k : Nat, k ≤ n ∧ i = .int .i64 k ∧ q = .int .i64 ((k0 + k : Nat) : Int) ∧ Hid (0 < n → ∃ (g : Nat) (M : List Value), p = some ⟨g, 0, none⟩ ∧ M.length = n ∧ (∀ i, i < k → M[i]? = some (numV (k0 + i))) ∧ Vec wr g M) ∧ Hid (w.grownBy wr row)) (fun _ i _ => n - (intOf i).toNat)
 case atStart => exact ⟨0, by omega, rfl, rfl, fun h0 => by obtain ⟨g, hg, V⟩ := H2.out h0; exact ⟨g, _, hg, by rw [List.length_map, HL.out], fun i hi => absurd hi (by omega), V⟩, grown_refl _ _⟩
 case round =>
  obtain ⟨k, hk, rfl, rfl, H, HX⟩ := hrel
  by_cases hlt : k < n
  ·
   obtain ⟨g, M, rfl, hM, hK, V⟩ := H.out (by omega)
   have HK : Hid (∀ i, i < k → M[i]? = some (numV (k0 + i))) := hK
   have HMl : Hid (M.length = n) := hM
   have hrg : some g = row := by have := HRow.out; rw [if_neg (by omega)] at this; exact this
   have i2 : (k : Int) < (n : Int) := by omega
   obtain ⟨m, hm⟩ : ∃ m : Nat, k0 + k = m := ⟨_, rfl⟩
   have m1 : m ≤ 2000000 := by omega
   rw [hm]
   obtain ⟨a0, f0⟩ := V k _ (List.getElem?_eq_getElem (by omega))
   have HF : Hid (0 < n → ∃ (g' : Nat) (M' : List Value), (some ⟨g, 0, none⟩ : Option Addr) = some ⟨g', 0, none⟩ ∧ M'.length = n ∧ (∀ i, i < k + 1 → M'[i]? = some (numV (k0 + i))) ∧ Vec (wr.setCell ⟨g, k, none⟩ (.int .i64 m)) g' M') := fun _ => by
    refine ⟨g, M.set k (numV m), rfl, by simp [hM], fun i hi => ?_, V.put k (by omega) _⟩
    by_cases e : i = k
    ·
     subst e
     rw [List.getElem?_set_self (by omega), hm]
    ·
     rw [List.getElem?_set_ne (fun q => e q.symm)]
     exact HK.out i (by omega)
   have HG : Hid (w.grownBy (wr.setCell ⟨g, k, none⟩ (.int .i64 m)) row) := by
    show World.grownBy _ _ _
    rw [← hrg]
    exact grown_set (by rw [hrg]; exact HX.out) _
   obtain ⟨w2, hw2⟩ : ∃ q, wr.setCell ⟨g, k, none⟩ (.int .i64 m) = q := ⟨_, rfl⟩
   rw [hw2] at HF HG
   have hnx : ((m : Nat) : Int) + 1 = ((k0 + (k + 1) : Nat) : Int) := by omega
   generalize M[k] = u at a0
   clear H HX HK HMl V hM hK H2 hrg HRow hm
   go_wp2_with fail
   go_roundw
   case rel => exact ⟨k + 1, by omega, by go_num, by first | (rw [hnx]) | (congr 1), HF, HG⟩
   case measure => simp [intOf]; omega
  ·
   obtain rfl : k = n := by omega
   go_wp2_with fail
   go_ret
   refine ⟨rfl, ⟨p, cap, by rw [marksN_length], by rw [marksN_length]; exact hcap, fun h0 => ?_⟩, HX.out⟩
   rw [marksN_length] at h0
   obtain ⟨g, M, rfl, hM, hK, V⟩ := H.out h0
   refine ⟨g, rfl, fun i u hi => ?_⟩
   rw [List.getElem?_map] at hi
   have hik : i < k := by
    rcases Nat.lt_or_ge i k with h' | h'
    ·
     exact h'
    ·
     rw [List.getElem?_eq_none (by rw [marksN_length]; exact h')] at hi; cases hi
   rw [marksN_at _ _ _ hik] at hi
   exact V i u ((hK i hik).trans hi)
set_option maxRecDepth 8000 in
set_option maxHeartbeats 2000000 in
theorem heldNumsG (v : Value) (n k0 : Nat) (w : World) (h : NumsAt w v (marksN k0 n)) (hn : n ≤ 1048576) (h1 : 1 ≤ k0) (h2 : k0 ≤ 900000) :
  Calls Tryz.prog 32 #[v, .int .i64 k0] w fun e w' => e = .returned (.int .i64 ((k0 + n : Nat) : Int)) ∧ Ext w w' := by
 obtain ⟨p, cap, rfl, hcap, hp⟩ := h
 rw [marksN_length] at hcap hp ⊢
 have HV : Hid (0 < n → ∃ g, p = some ⟨g, 0, none⟩ ∧ Vec w g ((marksN k0 n).map numV)) := hp
 clear hp
 go_enter Tryz.func32, Tryz.ntmps32
 go_wp2_with fail
 go_loopw [1, 5] (fun a i wr => ∃ k : Nat, k ≤ n ∧ i = .int .i64 k ∧ a = .int .i64 ((k0 + k : Nat) : Int) ∧ Ext w wr) (fun _ i _ => n - (intOf i).toNat)
 case atStart => exact ⟨0, by omega, rfl, rfl, xr _⟩
 case round =>
  obtain ⟨k, hk, rfl, rfl, X⟩ := hrel
  by_cases hlt : k < n
  ·
   have i2 : (k : Int) < (n : Int) := by omega
   obtain ⟨m, hm⟩ : ∃ m, k0 + k = m := ⟨_, rfl⟩
   have m1 : m ≤ 2000000 := by omega
   obtain ⟨g, rfl, V⟩ := HV.out (by omega)
   have a0 := ((V.later X) k (numV m) (by rw [List.getElem?_map, marksN_at _ _ _ hlt, hm]; rfl)).1
   rw [hm]
   have hnx : ((m : Nat) : Int) + 1 = ((k0 + (k + 1) : Nat) : Int) := by omega
   clear V HV
   go_wp2_with fail
   go_roundw
   case rel => exact ⟨k + 1, by omega, by go_num, by first | (rw [hnx]) | (congr 1), ⟨X.os, X.tape, X.output, X.size, X.block⟩⟩
   case measure => simp [intOf]; omega
  ·
   obtain rfl : k = n := by omega
   go_wp2_with fail
   go_ret
   exact ⟨rfl, X⟩

/-- How many marks groups take. -/
def sumM : List GG → Nat
 | [] => 0
 | x :: L => (x.K.length * 5 + x.e.ns.length) + sumM L
theorem sumM_app (a b : List GG) : sumM (a ++ b) = sumM a + sumM b := by
 induction a with
 | nil => simp [sumM]
 | cons x a ih => simp only [List.cons_append, sumM, ih]; omega
theorem sumM_take {L : List GG} {i : Nat} {x : GG} (h : L[i]? = some x) : sumM (L.take (i + 1)) = sumM (L.take i) + (x.K.length * 5 + x.e.ns.length) := by
 rw [List.take_add_one, h, sumM_app]
 rfl
theorem sumM_le (L : List GG) (i : Nat) : sumM (L.take i) ≤ sumM L := by
 have := sumM_app (L.take i) (L.drop i)
 rw [List.take_append_drop] at this
 omega
/-- A list's own cells. -/
def GrCells (w : World) (g : Nat) (L : List GG) : Prop := ∀ (i : Nat) (x : GG), L[i]? = some x → w.cell? ⟨g, i * 2, none⟩ = some x.kv ∧ w.cell? ⟨g, i * 2 + 1, none⟩ = some x.e.sl
/-- Groups that lie apart from each other and from a block. -/
structure ApartG (g : Nat) (L : List GG) : Prop where
 own : ∀ (i : Nat) (x : GG), L[i]? = some x → x.kv.ownBlock ≠ some g ∧ x.e.g ≠ g ∧ x.kv.ownBlock ≠ some x.e.g
 kk : ∀ (i j : Nat) (x y : GG) (b : Nat), L[i]? = some x → L[j]? = some y → i ≠ j → x.kv.ownBlock = some b → y.kv.ownBlock ≠ some b ∧ y.e.g ≠ b
 ee : ∀ (i j : Nat) (x y : GG), L[i]? = some x → L[j]? = some y → i ≠ j → x.e.g ≠ y.e.g
/-- The first i groups marked, the others as they lie. -/
def MarkG (w : World) (k0 : Nat) (L : List GG) (i : Nat) : Prop := ∀ (j : Nat) (x : GG), L[j]? = some x →
 (j < i → (∃ M, RowAt w x.kv x.K.length M ∧ MarkedV M (k0 + sumM (L.take j)) x.K.length) ∧ NumsAt w x.e.sl (marksN (k0 + sumM (L.take j) + x.K.length * 5) x.e.ns.length)) ∧
 (i ≤ j → (∃ M, RowAt w x.kv x.K.length M) ∧ ∃ N, NumsAt w x.e.sl N ∧ N.length = x.e.ns.length)
/-- Only groups' own blocks have turned. -/
structure OnlyG (w w' : World) (L : List GG) : Prop where
 os : w'.os = w.os
 tape : w'.tape = w.tape
 output : w'.output = w.output
 size : w.heap.size ≤ w'.heap.size
 block : ∀ b, b < w.heap.size → (∀ x ∈ L, x.kv.ownBlock ≠ some b ∧ x.e.g ≠ b) → w'.heap[b]? = w.heap[b]?
theorem OnlyG.refl (w : World) (L : List GG) : OnlyG w w L := ⟨rfl, rfl, rfl, Nat.le_refl _, fun _ _ _ => rfl⟩
theorem OnlyG.grown {w a b : World} {L : List GG} {row : Option Nat} (h : OnlyG w a L) (g : a.grownBy b row) (hr : ∀ k, row = some k → ∃ x ∈ L, x.kv.ownBlock = some k ∨ x.e.g = k) : OnlyG w b L := by
 refine ⟨g.os.trans h.os, g.tape.trans h.tape, g.output.trans h.output, Nat.le_trans h.size g.size, fun k hk hx => ?_⟩
 rw [g.block k (Nat.lt_of_lt_of_le hk h.size) (fun q => ?_), h.block k hk hx]
 obtain ⟨x, hxm, hxk⟩ := hr k q.symm
 rcases hxk with e | e
 ·
  exact (hx x hxm).1 e
 ·
  exact (hx x hxm).2 e
theorem cell_blockG {w W : World} {b o : Nat} (h : W.heap[b]? = w.heap[b]?) : W.cell? ⟨b, o, none⟩ = w.cell? ⟨b, o, none⟩ := by
 unfold World.cell?
 simp only [h]
theorem cells_kept {w w' : World} {g : Nat} {L : List GG} {row : Option Nat} (h : GrCells w g L) (G : w.grownBy w' row) (hne : some g ≠ row) : GrCells w' g L := fun i x hi => by
 obtain ⟨h1, h2⟩ := h i x hi
 have hlt : g < w.heap.size := by
  rcases Nat.lt_or_ge g w.heap.size with q | q
  ·
   exact q
  ·
   unfold World.cell? at h1
   simp only [Array.getElem?_eq_none q] at h1
   cases h1
 have hb := G.block g hlt hne
 exact ⟨by rw [cell_blockG hb]; exact h1, by rw [cell_blockG hb]; exact h2⟩

/-- One group marked. -/
theorem MarkG.step {w a b : World} {k0 i : Nat} {L : List GG} {x : GG} {g : Nat} {ra rb : Option Nat} (h : MarkG w k0 L i) (A : ApartG g L) (hx : L[i]? = some x)
  (hM : ∃ M, RowAt a x.kv x.K.length M ∧ MarkedV M (k0 + sumM (L.take i)) x.K.length) (Ga : w.grownBy a ra) (hra : ∀ k, ra = some k → x.kv.ownBlock = some k)
  (hN : NumsAt b x.e.sl (marksN (k0 + sumM (L.take i) + x.K.length * 5) x.e.ns.length)) (Gb : a.grownBy b rb) (hrb : ∀ k, rb = some k → x.e.g = k) : MarkG b k0 L (i + 1) := by
 have hsl : ∀ (y : GG) k, y.e.sl.ownBlock = some k → y.e.g = k := fun y k hk => by simpa [Value.ownBlock] using hk
 have keepV : ∀ j y, L[j]? = some y → j ≠ i → ∀ M, RowAt w y.kv y.K.length M → RowAt b y.kv y.K.length M := fun j y hj hne M h1 => by
  refine (h1.keep Ga (fun q _ hq e => ?_)).keep Gb (fun q _ hq e => ?_)
  ·
   exact (A.kk j i y x q hj hx hne hq).1 (hra q e.symm)
  ·
   exact (A.kk j i y x q hj hx hne hq).2 (hrb q e.symm)
 have keepN : ∀ j y, L[j]? = some y → j ≠ i → ∀ N, NumsAt w y.e.sl N → NumsAt b y.e.sl N := fun j y hj hne N h1 => by
  refine (h1.keep Ga (fun q _ hq e => ?_)).keep Gb (fun q _ hq e => ?_)
  ·
   exact (A.kk i j x y q hx hj (Ne.symm hne) (hra q e.symm)).2 (hsl y q hq)
  ·
   exact A.ee i j x y hx hj (Ne.symm hne) ((hrb q e.symm).trans (hsl y q hq).symm)
 intro j y hj
 by_cases e : j = i
 ·
  subst e
  rw [hx] at hj
  cases hj
  refine ⟨fun _ => ?_, fun h => by omega⟩
  obtain ⟨M, h1, h2⟩ := hM
  refine ⟨⟨M, h1.keep Gb (fun q _ hq e => ?_), h2⟩, hN⟩
  have := (A.own j x hx).2.2
  rw [hrb q e.symm] at this
  exact this hq
 ·
  obtain ⟨h1, h2⟩ := h j y hj
  refine ⟨fun hji => ?_, fun hji => ?_⟩
  ·
   obtain ⟨⟨M, m1, m2⟩, m3⟩ := h1 (by omega)
   exact ⟨⟨M, keepV j y hj e M m1, m2⟩, keepN j y hj e _ m3⟩
  ·
   obtain ⟨⟨M, m1⟩, N, m3, m4⟩ := h2 (by omega)
   exact ⟨⟨M, keepV j y hj e M m1⟩, N, keepN j y hj e N m3, m4⟩

theorem perm_map_inv {α β : Type} {G : α → β} {a b : List β} (h : a.Perm b) : ∀ l : List α, b = l.map G → ∃ m : List α, m.Perm l ∧ m.map G = a := by
 induction h with
 | nil => intro l hl; exact ⟨l, .refl _, hl.symm⟩
 | cons x h ih =>
  intro l hl
  cases l with
  | nil => cases hl
  | cons y l =>
   simp only [List.map_cons, List.cons.injEq] at hl
   obtain ⟨m, hm, he⟩ := ih l hl.2
   exact ⟨y :: m, hm.cons y, by rw [List.map_cons, he, hl.1]⟩
 | swap x y l0 =>
  intro l hl
  match l, hl with
  | [], hl => cases hl
  | [_], hl => simp at hl
  | p :: q :: l, hl =>
   simp only [List.map_cons, List.cons.injEq] at hl
   exact ⟨q :: p :: l, .swap p q l, by rw [List.map_cons, List.map_cons, hl.1, hl.2.1, hl.2.2]⟩
 | trans h1 h2 ih1 ih2 =>
  intro l hl
  obtain ⟨m, hm, he⟩ := ih2 l hl
  obtain ⟨m', hm', he'⟩ := ih1 m he.symm
  exact ⟨m', hm'.trans hm, he'⟩

theorem ownsRow_stay {w w' : World} {base sz n : Nat} {t : TypeId} {v : Value} {xs : List Value} {row : Option Nat} (h : w.ownsRow base t sz v n xs) (hg : w.grownBy w' row) (hr : ∀ k, v.ownBlock = some k → row ≠ some k) : w'.ownsRow base t sz v n xs := by
 refine ⟨h.1, h.2.imp id ?_⟩
 rintro ⟨g, cap, cur, rfl, h2, h3, h4⟩
 have hlt : g < w.heap.size := by
  rcases Nat.lt_or_ge g w.heap.size with q | q
  ·
   exact q
  ·
   rw [Array.getElem?_eq_none q] at h3; cases h3
 exact ⟨g, cap, cur, rfl, h2, by rw [hg.block g hlt (fun q => hr g rfl q.symm)]; exact h3, h4⟩
theorem ownsRow_ltG {w : World} {base sz n : Nat} {t : TypeId} {v : Value} {xs : List Value} (h : w.ownsRow base t sz v n xs) : ∀ k, v.ownBlock = some k → k < w.heap.size := by
 intro k hk
 rcases h.2 with ⟨rfl, _⟩ | ⟨g, cap, cur, rfl, h2, h3, h4⟩
 ·
  cases hk
 ·
  have e : g = k := by simpa [Value.ownBlock] using hk
  subst e
  rcases Nat.lt_or_ge g w.heap.size with q | q
  ·
   exact q
  ·
   rw [Array.getElem?_eq_none q] at h3; cases h3
theorem ownsRow_laterG {w w' : World} {base sz n : Nat} {t : TypeId} {v : Value} {xs : List Value} (h : w.ownsRow base t sz v n xs) (x : Ext w w') : w'.ownsRow base t sz v n xs := by
 refine ⟨h.1, h.2.imp id ?_⟩
 rintro ⟨g, cap, cur, rfl, h2, h3, h4⟩
 have hlt : g < w.heap.size := by
  rcases Nat.lt_or_ge g w.heap.size with q | q
  ·
   exact q
  ·
   rw [Array.getElem?_eq_none q] at h3; cases h3
 exact ⟨g, cap, cur, rfl, h2, by rw [x.block g hlt]; exact h3, h4⟩
theorem sl_block (e : GE) : e.sl.ownBlock = some e.g := rfl

/-- Two groups whose memory lies apart. -/
def offG (x y : GG) : Prop := (∀ b, x.kv.ownBlock = some b → y.kv.ownBlock ≠ some b ∧ y.e.g ≠ b) ∧ (∀ b, y.kv.ownBlock = some b → x.e.g ≠ b) ∧ x.e.g ≠ y.e.g
theorem offG_symm {x y : GG} (h : offG x y) : offG y x := ⟨fun b hb => ⟨fun q => (h.1 b q).1 hb, h.2.1 b hb⟩, fun b hb => (h.1 b hb).2, Ne.symm h.2.2⟩
/-- A list of groups, each with memory of its own. -/
structure LieG (w : World) (bl br : Nat) (v : Value) (L : List GG) : Prop where
 list : OwnG w bl v L
 keys : ∀ x ∈ L, OwnW w bl x.kv x.K
 rows : ∀ x ∈ L, OwnI w br x.e.sl x.e.ns
 own : ∀ x ∈ L, x.kv.ownBlock ≠ some x.e.g ∧ ∀ g, v.ownBlock = some g → x.kv.ownBlock ≠ some g ∧ x.e.g ≠ g
 off : L.Pairwise offG
theorem LieG.nil (w : World) (bl br : Nat) : LieG w bl br (.slice none 0 0) [] := ⟨ownG_nil _ _, fun _ h => (by cases h), fun _ h => (by cases h), fun _ h => (by cases h), .nil⟩
theorem LieG.later {w w' : World} {bl br : Nat} {v : Value} {L : List GG} (h : LieG w bl br v L) (x : Ext w w') : LieG w' bl br v L :=
 ⟨ownG_later h.list x, fun y hy => ownsRow_laterG (h.keys y hy) x, fun y hy => ownsRow_laterG (h.rows y hy) x, h.own, h.off⟩
/-- A block of others has turned. -/
theorem LieG.stay {w w' : World} {bl br : Nat} {v : Value} {L : List GG} {row : Option Nat} (h : LieG w bl br v L) (g : w.grownBy w' row) (hl : ∀ k, v.ownBlock = some k → row ≠ some k) (hx : ∀ x ∈ L, (∀ k, x.kv.ownBlock = some k → row ≠ some k) ∧ row ≠ some x.e.g) : LieG w' bl br v L :=
 ⟨ownsRow_stay h.list g hl, fun y hy => ownsRow_stay (h.keys y hy) g (hx y hy).1, fun y hy => ownsRow_stay (h.rows y hy) g (fun k hk => by rw [sl_block] at hk; cases hk; exact (hx y hy).2), h.own, h.off⟩
/-- The list put in another order. -/
theorem LieG.perm {w w' : World} {bl br : Nat} {v : Value} {L M : List GG} (h : LieG w bl br v L) (p : M.Perm L) (hO : OwnG w' bl v M) (g : w.grownBy w' v.ownBlock) : LieG w' bl br v M := by
 have mem : ∀ x ∈ M, x ∈ L := fun x hx => p.mem_iff.1 hx
 refine ⟨hO, fun y hy => ownsRow_stay (h.keys y (mem y hy)) g (fun k hk q => ((h.own y (mem y hy)).2 k q).1 hk), fun y hy => ownsRow_stay (h.rows y (mem y hy)) g (fun k hk q => ?_), fun y hy => h.own y (mem y hy), ?_⟩
 ·
  rw [sl_block] at hk
  cases hk
  exact ((h.own y (mem y hy)).2 _ q).2 rfl
 ·
  exact (p.pairwise_iff (fun {a b} h => offG_symm h)).2 h.off
theorem app_group2 (w : World) (base : Nat) (v : Value) (l : List GG) (O : OwnG w base v l) (x : GG) (b : Nat) (V : Vec w b [x.kv, x.e.sl]) (ho : x.kv.oneCell' = true) (hl : l.length ≤ 1000000) (hb : base ≤ w.heap.size) :
  ∃ v' w', (Builtin.append_ #[27, 27] 27 #[v, .slice (some ⟨b, 0, none⟩) 1 1]).run Tryz.prog w = .ok v' w' ∧ OwnG w' base v' (l ++ [x]) ∧ w.grownBy w' v.ownBlock ∧ (v'.ownBlock = v.ownBlock ∨ v'.ownBlock = some w.heap.size) := by
 obtain ⟨inf, hi, hz, hsz, hby⟩ := infoGr
 obtain ⟨v', w', hrun, O', GW, hbk⟩ := app_srcG (P := Tryz.prog) w base 27 27 27 57 inf (.agg #[.slice none 0 0, .slice none 0 0]) Tryz.underlying27 hi hz 2 hsz (by rw [hby]; omega) rfl v l.length _ O (.slice (some ⟨b, 0, none⟩) 1 1) 1 [x.kv, x.e.sl]
  (Src.ofSlice (size := 2) w Tryz.underlying27 ⟨b, 0, none⟩ 1 1 [x.kv, x.e.sl] rfl (fun j u hj => by rw [Addr.add_lit, Nat.zero_add]; exact (V j u hj).1) (fun u hu => by simp at hu; rcases hu with rfl | rfl; exact ho; rfl)) (by omega) hb
 refine ⟨v', w', hrun, ?_, GW, hbk⟩
 show World.ownsRow _ _ _ _ _ _ _
 rw [List.length_append, List.flatMap_append]
 simpa using O'
theorem ownW_one {w : World} {base : Nat} {v : Value} {l : List VT} (h : OwnW w base v l) : v.oneCell' = true := by
 obtain ⟨p, n, c, rfl⟩ := ownW_slice h
 rfl
/-- One more group. -/
theorem LieG.add {w : World} {bl br : Nat} {v : Value} {L : List GG} (h : LieG w bl br v L) (x : GG) (hk : OwnW w bl x.kv x.K) (hr : OwnI w br x.e.sl x.e.ns) (ho : x.kv.ownBlock ≠ some x.e.g ∧ ∀ g, v.ownBlock = some g → x.kv.ownBlock ≠ some g ∧ x.e.g ≠ g)
  (hof : ∀ y ∈ L, offG y x) (b : Nat) (V : Vec w b [x.kv, x.e.sl]) (hl : L.length ≤ 1000000) (hb : bl ≤ w.heap.size) :
  ∃ v' w', (Builtin.append_ #[27, 27] 27 #[v, .slice (some ⟨b, 0, none⟩) 1 1]).run Tryz.prog w = .ok v' w' ∧ LieG w' bl br v' (L ++ [x]) ∧ w.grownBy w' v.ownBlock := by
 obtain ⟨v', w', hrun, O', GW, hbk⟩ := app_group2 w bl v L h.list x b V (ownW_one hk) hl hb
 have each : ∀ y ∈ L ++ [x], OwnW w bl y.kv y.K ∧ OwnI w br y.e.sl y.e.ns ∧ y.kv.ownBlock ≠ some y.e.g ∧ ∀ g, v.ownBlock = some g → y.kv.ownBlock ≠ some g ∧ y.e.g ≠ g := fun y hy => by
  rcases List.mem_append.1 hy with q | q
  ·
   exact ⟨h.keys y q, h.rows y q, h.own y q⟩
  ·
   cases List.mem_singleton.1 q
   exact ⟨hk, hr, ho⟩
 refine ⟨v', w', hrun, ⟨O', fun y hy => ?_, fun y hy => ?_, fun y hy => ?_, ?_⟩, GW⟩
 ·
  obtain ⟨a, _, _, d⟩ := each y hy
  exact ownsRow_stay a GW (fun k hk q => (d k q).1 hk)
 ·
  obtain ⟨_, a, _, d⟩ := each y hy
  exact ownsRow_stay a GW (fun k hk q => by rw [sl_block] at hk; cases hk; exact (d _ q).2 rfl)
 ·
  obtain ⟨a, a', c, d⟩ := each y hy
  refine ⟨c, fun g hg => ?_⟩
  rcases hbk with q | q
  ·
   exact d g (by rw [← q]; exact hg)
  ·
   rw [q] at hg
   cases hg
   refine ⟨fun e => ?_, fun e => ?_⟩
   ·
    have := ownsRow_ltG a _ e
    omega
   ·
    have := ownsRow_ltG a' _ (sl_block y.e)
    omega
 ·
  refine List.pairwise_append.2 ⟨h.off, List.pairwise_singleton _ _, fun a ha b hb => ?_⟩
  cases List.mem_singleton.1 hb
  exact hof a ha
theorem LieG.base {w : World} {bl br bl' br' : Nat} {v : Value} {L : List GG} (h : LieG w bl br v L) (h1 : bl' ≤ bl) (h2 : br' ≤ br) : LieG w bl' br' v L := by
 have lower : ∀ {b b' sz n : Nat} {t : TypeId} {v : Value} {xs : List Value}, b' ≤ b → w.ownsRow b t sz v n xs → w.ownsRow b' t sz v n xs := fun hb h => by
  refine ⟨h.1, h.2.imp id ?_⟩
  rintro ⟨g, cap, cur, a1, a2, a3⟩
  exact ⟨g, cap, cur, a1, by omega, a3⟩
 exact ⟨lower h1 h.list, fun x hx => lower h1 (h.keys x hx), fun x hx => lower h2 (h.rows x hx), h.own, h.off⟩
theorem LieG.apart {w : World} {bl br g : Nat} {v : Value} {L : List GG} (h : LieG w bl br v L) (hg : v.ownBlock = some g) : ApartG g L := by
 have pw : ∀ (i j : Nat) (x y : GG), L[i]? = some x → L[j]? = some y → i ≠ j → offG x y := fun i j x y hi hj hne => by
  obtain ⟨a1, rfl⟩ := List.getElem?_eq_some_iff.1 hi
  obtain ⟨a2, rfl⟩ := List.getElem?_eq_some_iff.1 hj
  have := List.pairwise_iff_getElem.1 h.off
  rcases Nat.lt_or_ge i j with q | q
  ·
   exact this i j a1 a2 q
  ·
   exact offG_symm (this j i a2 a1 (by omega))
 refine ⟨fun i x hi => ?_, fun i j x y b hi hj hne hb => ?_, fun i j x y hi hj hne => ?_⟩
 ·
  obtain ⟨a, c⟩ := h.own x (List.mem_of_getElem? hi)
  obtain ⟨c1, c2⟩ := c g hg
  exact ⟨c1, c2, a⟩
 ·
  exact (pw i j x y hi hj hne).1 b hb
 ·
  exact (pw i j x y hi hj hne).2.2

end Go.Proofs.YtgpfddneablcpaaGreatDoor

