/-
  Several texts in one: E28, E29, E11.
-/
import Derived.Test.YtgpfddneablcpaaGreatDoorMg34
import Derived.Test.YtgpfddneablcpaaGreatDoorMg33
namespace Go.Proofs.YtgpfddneablcpaaGreatDoor
open Go.RowKit

def zeroGG : GG := ⟨.slice none 0 0, [], ⟨0, 0, []⟩⟩
def atG (M : List GG) (j : Nat) : GG := M.getD j zeroGG
theorem atG_get {M : List GG} {j : Nat} (h : j < M.length) : M[j]? = some (atG M j) := by
 rw [List.getElem?_eq_getElem h]; simp [atG, h]
def swapG (M : List GG) (i j : Nat) : List GG := (M.set i (atG M j)).set j (atG M i)
theorem swapG_at {M : List GG} {i j : Nat} (hi : i < M.length) (hj : j < M.length) (k : Nat) :
  atG (swapG M i j) k = if k = j then atG M i else if k = i then atG M j else atG M k := by
 unfold swapG atG
 simp only [List.getD_eq_getElem?_getD, List.getElem?_set, List.length_set]
 by_cases h1 : k = j
 ·
  subst h1; simp [hj]
 ·
  rw [if_neg (fun e => h1 e.symm), if_neg h1]
  by_cases h2 : k = i
  ·
   subst h2; simp [hi]
  ·
   rw [if_neg (fun e => h2 e.symm), if_neg h2]
theorem swapG_perm {M : List GG} {i j : Nat} (hi : i < M.length) (hj : j < M.length) : (swapG M i j).Perm M := by
 have e := Array.swap_perm (xs := M.toArray) (i := i) (j := j) (by simpa using hi) (by simpa using hj)
 rw [Array.perm_iff_toList_perm, List.swap_toArray] at e
 have e2 : swapG M i j = (M.set i M[j]).set j M[i] := by
  unfold swapG atG
  simp [hi, hj]
 rw [e2]
 simpa using e
def cmG (M : List GG) (a b : Nat) : Int := lexG (atG M a).K (atG M b).K
/-- The first i stand in order. -/
def UpToG (M : List GG) (i : Nat) : Prop := ∀ a b, a < b → b < i → cmG M a b ≤ 0
/-- One is being put in its place. -/
def InsG (M : List GG) (i k : Nat) : Prop := k ≤ i ∧ (∀ a b, a < b → b ≤ i → a ≠ k → b ≠ k → cmG M a b ≤ 0) ∧ (∀ b, k < b → b ≤ i → cmG M k b < 0)
theorem InsG.start {M : List GG} {i : Nat} (h : UpToG M i) : InsG M i i := ⟨Nat.le_refl _, fun a b hab hb _ hbi => h a b hab (by omega), fun b h1 h2 => by omega⟩
theorem InsG.step {M : List GG} {i k : Nat} (h : InsG M i (k + 1)) (hi : i < M.length) (hl : cmG M (k + 1) k < 0) : InsG (swapG M (k + 1) k) i k := by
 obtain ⟨h0, h1, h2⟩ := h
 have A := fun t => swapG_at (M := M) (i := k + 1) (j := k) (by omega) (by omega) t
 unfold cmG at *
 refine ⟨by omega, fun a b hab hbi hak hbk => ?_, fun b hkb hbi => ?_⟩
 ·
  unfold cmG
  rw [A a, A b, if_neg hak, if_neg hbk]
  by_cases ha : a = k + 1
  ·
   rw [if_pos ha, if_neg (show ¬ b = k + 1 by omega)]
   exact h1 k b (by omega) hbi (by omega) (by omega)
  ·
   rw [if_neg ha]
   by_cases hb : b = k + 1
   ·
    rw [if_pos hb]
    exact h1 a k (by omega) (by omega) ha (by omega)
   ·
    rw [if_neg hb]
    exact h1 a b hab hbi ha hb
 ·
  unfold cmG
  rw [A k, A b, if_pos rfl, if_neg (show ¬ b = k by omega)]
  by_cases hb : b = k + 1
  ·
   rw [if_pos hb]; exact hl
  ·
   rw [if_neg hb]; exact h2 b (by omega) hbi
theorem InsG.done {M : List GG} {i k : Nat} (h : InsG M i k) (hg : ∀ j, ∀ e ∈ (atG M j).K, e.good = true) (hd : k = 0 ∨ ¬ cmG M k (k - 1) < 0) : UpToG M (i + 1) := by
 obtain ⟨h0, h1, h2⟩ := h
 intro a b hab hb
 by_cases ha : a = k
 ·
  subst ha
  have := h2 b hab (by omega)
  omega
 ·
  by_cases hbk : b = k
  ·
   subst hbk
   rcases hd with rfl | hd
   ·
    omega
   ·
    have sw := lexG_swap (atG M b).K (atG M (b - 1)).K (hg _) (hg _)
    unfold cmG at *
    by_cases hab' : a = b - 1
    ·
     subst hab'; omega
    ·
     have := h1 a (b - 1) (by omega) (by omega) ha (by omega)
     exact lexG_trans _ _ _ (hg _) (hg _) (hg _) this (by omega)
  ·
   exact h1 a b hab (by omega) ha hbk
theorem UpToG.all {M : List GG} (h : UpToG M M.length) (hg : ∀ x ∈ M, ∀ e ∈ x.K, e.good = true) : M.Pairwise fun x y => 0 ≤ lexG y.K x.K := by
 rw [List.pairwise_iff_getElem]
 intro i j hi hj hij
 have := h i j hij hj
 unfold cmG atG at this
 simp only [List.getD_eq_getElem?_getD, List.getElem?_eq_getElem hi, List.getElem?_eq_getElem hj, Option.getD_some] at this
 have sw := lexG_swap M[i].K M[j].K (hg _ (List.getElem_mem hi)) (hg _ (List.getElem_mem hj))
 omega
theorem atG_good {M : List GG} (hg : ∀ x ∈ M, ∀ e ∈ x.K, e.good = true) (j : Nat) : ∀ e ∈ (atG M j).K, e.good = true := by
 unfold atG
 rw [List.getD_eq_getElem?_getD]
 cases h : M[j]? with
 | none => intro e he; cases he
 | some x => exact hg x (List.mem_of_getElem? h)
/-- Which of the first k groups has a key: the last one of them, -1 where none has. -/
def seekG (κ : Nat → List VT) (I : List Nat) (q : List VT) : Nat → Int
 | 0 => -1
 | k + 1 => if κ (I.getD k 0) = q then (k : Int) else seekG κ I q k
theorem seekG_none {κ : Nat → List VT} {I : List Nat} {q : List VT} {k : Nat} (h : ∀ j, j < k → κ (I.getD j 0) ≠ q) : seekG κ I q k = -1 := by
 induction k with
 | zero => rfl
 | succ k ih =>
  unfold seekG
  rw [if_neg (h k (by omega)), ih (fun j hj => h j (by omega))]
theorem seekG_some {κ : Nat → List VT} {I : List Nat} {q : List VT} {k j : Nat} (hj : j < k) (h : κ (I.getD j 0) = q) (one : ∀ i, i < k → κ (I.getD i 0) = q → i = j) : seekG κ I q k = j := by
 induction k with
 | zero => omega
 | succ k ih =>
  unfold seekG
  by_cases e : κ (I.getD k 0) = q
  ·
   rw [if_pos e, one k (by omega) e]
  ·
   rw [if_neg e]
   have : j ≠ k := fun z => e (by rw [← z]; exact h)
   exact ih (by omega) (fun i hi => one i (by omega))

theorem flatG_set : ∀ (L : List GG) (k : Nat) (x : GG), k < L.length → (L.set k x).flatMap GG.cells = ((L.flatMap GG.cells).set (k * 2) x.kv).set (k * 2 + 1) x.e.sl
 | [], k, x, h => absurd h (by simp)
 | q :: L, 0, x, _ => by simp [List.flatMap_cons]
 | q :: L, k + 1, x, h => by
  have ih := flatG_set L k x (by simpa using h)
  rw [List.set_cons_succ, List.flatMap_cons, List.flatMap_cons, ih, show (k + 1) * 2 = k * 2 + 1 + 1 by omega]
  rfl
theorem flatG_nth : ∀ (l : List GG) (i : Nat) (g : GG), l[i]? = some g → (l.flatMap GG.cells)[i * 2]? = some g.kv ∧ (l.flatMap GG.cells)[i * 2 + 1]? = some g.e.sl
 | [], i, g, h => by simp at h
 | x :: l, 0, g, h => by
  have : x = g := by simpa using h
  subst this
  simp
 | x :: l, i + 1, g, h => by
  have := flatG_nth l i g (by simpa using h)
  rw [List.flatMap_cons, show (i + 1) * 2 = i * 2 + 1 + 1 by omega]
  simpa using this
theorem ownG_froz {w : World} {base g j : Nat} {v : Value} {L : List GG} (h : OwnG w base v L) (hg : v.ownBlock = some g) : w.frozen? ⟨g, j, none⟩ = false := by
 rcases h.2 with ⟨rfl, _⟩ | ⟨g', cap, cur, rfl, h2, h3, _⟩
 ·
  cases hg
 ·
  have e : g' = g := by simpa [Value.ownBlock] using hg
  subst e
  unfold World.frozen?
  simp only [h3]
  simp
theorem ownG_form {w : World} {base g : Nat} {v : Value} {L : List GG} (h : OwnG w base v L) (hg : v.ownBlock = some g) : ∃ c, v = .slice (some ⟨g, 0, none⟩) L.length c ∧ L.length ≤ c := by
 rcases h.2 with ⟨rfl, _⟩ | ⟨g', cap, cur, rfl, h2, h3, h4, _⟩
 ·
  cases hg
 ·
  have e : g' = g := by simpa [Value.ownBlock] using hg
  subst e
  exact ⟨cap, rfl, h4⟩
/-- One group told anew. -/
theorem ownG_put {w : World} {base g k : Nat} {v : Value} {L : List GG} (h : OwnG w base v L) (hg : v.ownBlock = some g) (hk : k < L.length) (x : GG) : OwnG ((w.setCell ⟨g, k * 2, none⟩ x.kv).setCell ⟨g, k * 2 + 1, none⟩ x.e.sl) base v (L.set k x) := by
 obtain ⟨c, rfl, hc⟩ := ownG_form h hg
 have h1 := (World.ownsRow.stored h (k * 2) x.kv).1
 have h2 := (World.ownsRow.stored h1 (k * 2 + 1) x.e.sl).1
 show World.ownsRow _ _ _ _ _ _ _
 rw [flatG_set L k x hk, List.length_set]
 exact h2
theorem ownG_put1 {w : World} {base g k : Nat} {v : Value} {L : List GG} {x : GG} (h : OwnG w base v L) (hg : v.ownBlock = some g) (hk : L[k]? = some x) (e : GE) : OwnG (w.setCell ⟨g, k * 2 + 1, none⟩ e.sl) base v (L.set k ⟨x.kv, x.K, e⟩) := by
 obtain ⟨c, rfl, hc⟩ := ownG_form h hg
 have hl := (List.getElem?_eq_some_iff.1 hk).1
 have h2 := (World.ownsRow.stored h (k * 2 + 1) e.sl).1
 show World.ownsRow _ _ _ _ _ _ _
 rw [flatG_set L k _ hl, List.length_set]
 have e1 : (L.flatMap GG.cells).set (k * 2) x.kv = L.flatMap GG.cells := by
  have := (flatG_nth L k x hk).1
  obtain ⟨a, b⟩ := List.getElem?_eq_some_iff.1 this
  rw [← b]
  exact List.set_getElem_self a
 rw [show (⟨x.kv, x.K, e⟩ : GG).kv = x.kv from rfl, show (⟨x.kv, x.K, e⟩ : GG).e = e from rfl, e1]
 exact h2
theorem grownBy_two {a b c : World} {r : Option Nat} (h : a.grownBy b r) (k : b.grownBy c r) : a.grownBy c r :=
 ⟨k.os.trans h.os, k.tape.trans h.tape, k.output.trans h.output, Nat.le_trans h.size k.size, fun i hi hne => by rw [k.block i (Nat.lt_of_lt_of_le hi h.size) hne, h.block i hi hne]⟩
theorem grown_cell (w : World) (g j : Nat) (u : Value) : w.grownBy (w.setCell ⟨g, j, none⟩ u) (some g) := grown_set (grown_refl w _) u
/-- Two groups change places. -/
theorem LieG.swap {w : World} {bl br g : Nat} {v : Value} {M : List GG} (h : LieG w bl br v M) (hg : v.ownBlock = some g) {i j : Nat} (hi : i < M.length) (hj : j < M.length) :
  LieG ((((w.setCell ⟨g, i * 2, none⟩ (atG M j).kv).setCell ⟨g, i * 2 + 1, none⟩ (atG M j).e.sl).setCell ⟨g, j * 2, none⟩ (atG M i).kv).setCell ⟨g, j * 2 + 1, none⟩ (atG M i).e.sl) bl br v (swapG M i j) := by
 refine h.perm (swapG_perm hi hj) ?_ ?_
 ·
  have h1 := ownG_put h.list hg hi (atG M j)
  have h2 := ownG_put h1 hg (k := j) (by rw [List.length_set]; exact hj) (atG M i)
  exact h2
 ·
  rw [hg]
  exact grownBy_two (grownBy_two (grownBy_two (grown_cell _ _ _ _) (grown_cell _ _ _ _)) (grown_cell _ _ _ _)) (grown_cell _ _ _ _)
/-- A group's rows grow by one. -/
theorem LieG.grow {w : World} {bl br g k : Nat} {v : Value} {L : List GG} {x : GG} (h : LieG w bl br v L) (hg : v.ownBlock = some g) (hx : L[k]? = some x) (y b : Nat) (V : Vec w b [.int .i64 y]) (hl : x.e.ns.length ≤ 1000000) (hb : br ≤ w.heap.size) :
  ∃ (e : GE) (w' : World), (Builtin.append_ #[25, 25] 25 #[x.e.sl, .slice (some ⟨b, 0, none⟩) 1 1]).run Tryz.prog w = .ok e.sl w' ∧ e.ns = x.e.ns ++ [y] ∧ LieG (w'.setCell ⟨g, k * 2 + 1, none⟩ e.sl) bl br v (L.set k ⟨x.kv, x.K, e⟩) ∧ w.grownBy w' (some x.e.g) ∧
   w'.cell? ⟨g, k * 2 + 1, none⟩ = some x.e.sl ∧ w'.frozen? ⟨g, k * 2 + 1, none⟩ = false := by
 obtain ⟨inf, hi, hz, hsz, hby⟩ := infoI
 have mx := List.mem_of_getElem? hx
 have hkl := (List.getElem?_eq_some_iff.1 hx).1
 obtain ⟨v', w', hrun, O', GW, hbk⟩ := app_srcG (P := Tryz.prog) w br 25 25 25 3 inf (.int .i64 0) Tryz.underlying25 hi hz 1 hsz (by rw [hby]; omega) rfl x.e.sl x.e.ns.length _ (h.rows x mx) (.slice (some ⟨b, 0, none⟩) 1 1) 1 [.int .i64 y]
  (Src.ofSlice (size := 1) w Tryz.underlying25 ⟨b, 0, none⟩ 1 1 [.int .i64 y] rfl (fun j u hj => by rw [Addr.add_lit, Nat.zero_add]; exact (V j u hj).1) (fun u hu => by obtain rfl := List.mem_singleton.1 hu; rfl)) (by omega) hb
 rw [sl_block] at GW hbk
 have O2 : w'.ownsRow br 3 1 v' (x.e.ns ++ [y]).length ((x.e.ns ++ [y]).map numV) := by
  rw [List.map_append, List.length_append]
  exact O'
 obtain ⟨e, rfl, hens⟩ : ∃ e : GE, v' = e.sl ∧ e.ns = x.e.ns ++ [y] := by
  rcases O2.2 with ⟨_, h0⟩ | ⟨g', cap, cur, rfl, _⟩
  ·
   simp at h0
  ·
   exact ⟨⟨g', cap, x.e.ns ++ [y]⟩, rfl, rfl⟩
 rw [sl_block] at hbk
 have heg : e.g = x.e.g ∨ e.g = w.heap.size := by
  rcases hbk with q | q
  ·
   exact .inl (Option.some.inj q)
  ·
   exact .inr (Option.some.inj q)
 obtain ⟨ho1, ho2⟩ := h.own x mx
 obtain ⟨hog1, hog2⟩ := ho2 g hg
 have OL : OwnG w' bl v L := ownsRow_stay h.list GW (fun q hq z => by rw [hg] at hq; exact hog2 ((Option.some.inj z).trans (Option.some.inj hq).symm))
 -- the other groups
 have pw : ∀ (i : Nat) (z : GG), L[i]? = some z → i ≠ k → offG x z := fun i z hz hne => by
  have P := List.pairwise_iff_getElem.1 h.off
  obtain ⟨a1, rfl⟩ := List.getElem?_eq_some_iff.1 hz
  obtain ⟨a2, e2⟩ := List.getElem?_eq_some_iff.1 hx
  rw [← e2]
  rcases Nat.lt_or_ge i k with q | q
  ·
   exact offG_symm (P i k a1 a2 q)
  ·
   exact P k i a2 a1 (by omega)
 have memS : ∀ z ∈ L.set k ⟨x.kv, x.K, e⟩, z = ⟨x.kv, x.K, e⟩ ∨ ∃ i, L[i]? = some z ∧ i ≠ k := fun z hz => by
  obtain ⟨i, hi⟩ := List.mem_iff_getElem?.1 hz
  by_cases q : i = k
  ·
   subst q
   rw [List.getElem?_set_self hkl] at hi
   exact .inl (Option.some.inj hi).symm
  ·
   rw [List.getElem?_set_ne (fun z => q z.symm)] at hi
   exact .inr ⟨i, hi, q⟩
 have G2 := grown_cell w' g (k * 2 + 1) e.sl
 have kx := h.keys x mx
 have rx := ownsRow_ltG (h.rows x mx) _ (sl_block x.e)
 have ltg := ownsRow_ltG h.list g hg
 have offE : ∀ (i : Nat) (z : GG), L[i]? = some z → i ≠ k → offG ⟨x.kv, x.K, e⟩ z := fun i z hz hne => by
  obtain ⟨p1, p2, p3⟩ := pw i z hz hne
  have mz := List.mem_of_getElem? hz
  have lz := ownsRow_ltG (h.rows z mz) _ (sl_block z.e)
  refine ⟨p1, fun c hc q => ?_, fun q => ?_⟩
  ·
   have lc := ownsRow_ltG (h.keys z mz) c hc
   rcases heg with r | r
   ·
    exact p2 c hc (by rw [← r]; exact q)
   ·
    have : e.g = c := q
    omega
  ·
   rcases heg with r | r
   ·
    exact p3 (by rw [← r]; exact q)
   ·
    have : e.g = z.e.g := q
    omega
 refine ⟨e, w', hrun, hens, ⟨?_, fun z hz => ?_, fun z hz => ?_, fun z hz => ?_, ?_⟩, GW, (ownG_at OL (ownG_form OL hg).choose_spec.1 hx).2, ownG_froz OL hg⟩
 ·
  exact ownG_put1 OL hg hx e
 ·
  rcases memS z hz with rfl | ⟨i, hi, hne⟩
  ·
   exact ownsRow_stay (ownsRow_stay kx GW (fun q hq z => ho1 (by rw [Option.some.inj z]; exact hq))) G2 (fun q hq z => hog1 (by rw [Option.some.inj z]; exact hq))
  ·
   have mz := List.mem_of_getElem? hi
   exact ownsRow_stay (ownsRow_stay (h.keys z mz) GW (fun q hq r => (pw i z hi hne).2.1 q hq (Option.some.inj r))) G2 (fun q hq r => ((h.own z mz).2 g hg).1 (by rw [Option.some.inj r]; exact hq))
 ·
  rcases memS z hz with rfl | ⟨i, hi, hne⟩
  ·
   have O3 : OwnI w' br e.sl e.ns := by rw [hens]; have := O2; rw [← hens] at this ⊢; exact this
   refine ownsRow_stay O3 G2 (fun q hq r => ?_)
   rw [sl_block] at hq
   cases hq
   have : g = e.g := Option.some.inj r
   rcases heg with s | s
   ·
    exact hog2 (by rw [← s, this])
   ·
    omega
  ·
   have mz := List.mem_of_getElem? hi
   refine ownsRow_stay (ownsRow_stay (h.rows z mz) GW (fun q hq r => ?_)) G2 (fun q hq r => ?_)
   ·
    rw [sl_block] at hq
    cases hq
    have : x.e.g = z.e.g := Option.some.inj r
    exact (pw i z hi hne).2.2 this
   ·
    rw [sl_block] at hq
    cases hq
    have : g = z.e.g := Option.some.inj r
    exact ((h.own z mz).2 g hg).2 this.symm
 ·
  rcases memS z hz with rfl | ⟨i, hi, hne⟩
  ·
   refine ⟨fun q => ?_, fun c hc => ?_⟩
   ·
    rcases heg with s | s
    ·
     exact ho1 (by rw [← s]; exact q)
    ·
     have := ownsRow_ltG kx _ q
     have : e.g < w.heap.size := this
     omega
   ·
    rw [hg] at hc
    cases hc
    refine ⟨hog1, fun q => ?_⟩
    have : e.g = g := q
    rcases heg with s | s
    ·
     exact hog2 (by rw [← s]; exact this)
    ·
     omega
  ·
   exact h.own z (List.mem_of_getElem? hi)
 ·
  rw [List.pairwise_iff_getElem]
  intro i j hi hj hij
  have P := List.pairwise_iff_getElem.1 h.off
  have hi' : i < L.length := by rw [List.length_set] at hi; exact hi
  have hj' : j < L.length := by rw [List.length_set] at hj; exact hj
  by_cases qi : i = k
  ·
   subst qi
   rw [List.getElem_set_self, List.getElem_set_ne (by omega)]
   exact offE j _ (List.getElem?_eq_getElem hj') (by omega)
  ·
   by_cases qj : j = k
   ·
    subst qj
    rw [List.getElem_set_self, List.getElem_set_ne (by omega)]
    exact offG_symm (offE i _ (List.getElem?_eq_getElem hi') (by omega))
   ·
    rw [List.getElem_set_ne (by omega), List.getElem_set_ne (by omega)]
    exact P i j hi' hj' hij

set_option maxRecDepth 8000 in
set_option maxHeartbeats 2000000 in
theorem keysS (r c : Nat) (v u : Value) (l : List VT) (cl : List Int) (row : Nat) (w : World) (h : ValsIn w v l) (hl : l.length = r * c) (h2 : l.length ≤ 2000) (hr : row < r) (hu : IntsIn w u cl) (hc6 : cl.length ≤ 6) (hcl : ∀ k, k < cl.length → 1 ≤ cl.getD k 0 ∧ cl.getD k 0 ≤ c) (hc : c ≤ 2000) :
  Calls Tryz.prog 35 #[grV r c v, .int .i64 row, u] w fun e w' => ∃ sv, e = .returned sv ∧ OwnW w' w.heap.size sv (keyG l c (colN cl) row) ∧ Ext w w' := by
 have HP : Hid (∀ y, y < c → row * c + y < l.length) := fun y hy => by rw [hl]; exact place_lt hr hy
 obtain ⟨pv, capv, rfl, hcapv, hrow⟩ := h
 have HV : Hid (0 < l.length → ∃ b o, pv = some ⟨b, o, none⟩ ∧ RowV w b o l) := hrow
 obtain ⟨N, hN⟩ : ∃ N, l.length = N := ⟨_, rfl⟩
 have HNN : Hid (l.length = N) := hN
 rw [hN] at hcapv h2 HV HP ⊢
 obtain ⟨m, hm⟩ : ∃ m, row * c = m := ⟨_, rfl⟩
 have HM0 : Hid (row * c = m) := hm
 have hm' : (row : Int) * (c : Int) = (m : Int) := by rw [← hm]; simp
 rw [hm] at HP
 obtain ⟨p0, cap, rfl, hcap, hi⟩ := hu
 obtain ⟨n, hn⟩ : ∃ n, cl.length = n := ⟨_, rfl⟩
 have HN : Hid (cl.length = n) := hn
 have HC : Hid (∀ k, k < cl.length → 1 ≤ cl.getD k 0 ∧ cl.getD k 0 ≤ c) := hcl
 rw [hn] at hcap hi hc6 ⊢
 have HI : Hid (0 < n → ∃ b o, p0 = some ⟨b, o, none⟩ ∧ ∀ i, i < n → w.cell? ⟨b, o + i, none⟩ = some (.int .i64 (cl.getD i 0))) := hi
 have X0 := x1 w (.cells #[.int .i64 r, .int .i64 c, .slice pv N capv] 31)
 have B0 := vec_made w [.int .i64 r, .int .i64 c, .slice pv N capv] 31
 have S0 : (w.alloc (.cells #[.int .i64 r, .int .i64 c, .slice pv N capv] 31)).heap.size = w.heap.size + 1 := by rw [World.size_alloc]
 obtain ⟨u0, hu0⟩ : ∃ u, w.alloc (.cells #[.int .i64 r, .int .i64 c, .slice pv N capv] 31) = u := ⟨_, rfl⟩
 change Vec (w.alloc (.cells #[.int .i64 r, .int .i64 c, .slice pv N capv] 31)) _ _ at B0
 rw [hu0] at X0 B0 S0
 clear hl hi hcl hn hrow hN hm
 go_enter Tryz.func35, Tryz.ntmps35
 go_wp2_with fail
 go_loopw [7, 12] (fun s i wr => ∃ (k m cc : Nat) (p : Option Addr), k ≤ n ∧ i = .int .i64 k ∧ s = .slice p m cc ∧ Hid (OwnW wr (w.heap.size + 1) (.slice p m cc) (keyT l c cl row k) ∧ Ext u0 wr)) (fun _ i _ => n - (intOf i).toNat)
 case atStart => exact ⟨0, 0, 0, none, by omega, rfl, rfl, World.ownsRow_nil _ _ _ _, xr _⟩
 case round =>
  obtain ⟨k, m1, cc, p, hk, rfl, rfl, HO⟩ := hrel
  by_cases hlt : k < n
  ·
   have i2 : (k : Int) < (n : Int) := by omega
   have kc : (k : Int) ≤ (cap : Int) := by omega
   obtain ⟨b, o, e, hcc⟩ := HI.out (by omega)
   have c1 := cell_later (xt X0 HO.out.2) (hcc k hlt)
   subst e
   have hkk := HC.out k (by rw [HN.out]; exact hlt)
   obtain ⟨y, hy⟩ : ∃ y : Nat, cl.getD k 0 = (y : Int) + 1 := ⟨(cl.getD k 0 - 1).toNat, by omega⟩
   have HY : Hid (cl.getD k 0 = (y : Int) + 1) := hy
   rw [hy] at c1 hkk
   have hq1 := HP.out y (by omega)
   obtain ⟨b', o', e', RW⟩ := HV.out (by omega)
   subst e'
   obtain ⟨q, hq⟩ : ∃ q, m + y = q := ⟨_, rfl⟩
   obtain ⟨z, hz⟩ : ∃ z : Nat, (y : Int) + 1 = (z : Int) := ⟨y + 1, by omega⟩
   obtain ⟨s, hs⟩ : ∃ s : Nat, (m : Int) + (z : Int) = (s : Int) := ⟨m + z, by omega⟩
   have hs1 : (s : Int) - 1 = (q : Int) := by omega
   have s2 : (s : Int) ≤ 2001 := by omega
   have q1 : (q : Int) < (N : Int) := by omega
   have m0 : (m : Int) ≤ 2000 := by omega
   have z0 : (z : Int) ≤ 2000 := by omega
   rw [hz] at c1
   obtain ⟨⟨ek, en, ed, ex, et⟩, he⟩ : ∃ e, l[q]? = some e := ⟨_, List.getElem?_eq_getElem (by rw [HNN.out]; omega)⟩
   obtain ⟨d0, d1, d2, d3, d4⟩ := (RW.later (xt X0 HO.out.2)).five he
   simp only at d0 d1 d2 d3 d4
   have HE : Hid (cel l (row * c + y) = ⟨ek, en, ed, ex, et⟩) := by
    show _ = _
    rw [HM0.out, hq]
    unfold cel
    rw [List.getD_eq_getElem?_getD, he]
    rfl
   have OQ : Hid (OwnW wr (w.heap.size + 1) (.slice p m1 cc) (keyT l c cl row k)) := HO.out.1
   have Y1 := HO.out.2
   obtain ⟨a0, a1, a2⟩ := Vec.three (B0.later HO.out.2)
   obtain ⟨inf, hi, hzz, hz1, hz2⟩ := infoW
   have lk := keyT_length l c cl row (k := k) (by rw [HN.out]; exact hk)
   have hss : w.heap.size + 1 ≤ wr.heap.size := by have := Y1.size; omega
   clear he hy hcc HO RW hq1 hkk hq hz
   go_wp2_with (at_builtin; refine wpList_append_own _ rfl _ _ 29 rfl (w.heap.size + 1) 51 inf (valV 0 false 0 0 []) 5 48 Tryz.underlying29 hi hzz hz1 hz2 rfl (by decide) _ _ _ rfl (OQ.out.alloc _) ⟨wr.heap.size, 0, none⟩ 1 1 [.int .i64 ek, .bool en, .int .i64 ed, .int .i64 ex, sV et] rfl rfl (World.news_of_block (heap_alloc_new _ _)) (by simp [Value.oneCell']) (by simp only [maxLen, lk]; omega) (by rw [lk]; omega) (by simp; omega) ?_)
   intro v7 wC ownC gC _
   have lb := ownW_block OQ.out
   have Y5 : Ext u0 wC := (xa Y1 _).grown gC (xa Y1 _).size (fun r hr => by have := lb r hr; omega)
   have OC : OwnW wC (w.heap.size + 1) v7 (keyT l c cl row (k + 1)) := by
    rw [keyT_succ l c cl row (by rw [HN.out]; exact hlt) HY.out, HE.out]
    show World.ownsRow _ _ _ _ _ _ _
    rw [flatV_append, List.length_append, lk]
    exact ownC
   obtain ⟨p7, n7, c7, rfl⟩ := ownW_slice OC
   have HM : Hid (OwnW wC (w.heap.size + 1) (.slice p7 n7 c7) (keyT l c cl row (k + 1)) ∧ Ext u0 wC) := ⟨OC, Y5⟩
   clear ownC gC lb OQ Y1 hi hzz hz1 hz2 Y5 OC
   go_wp2_with fail
   go_roundw
   case rel => exact ⟨k + 1, n7, c7, p7, by omega, by go_num, rfl, HM⟩
   case measure => simp [intOf]; omega
  ·
   obtain rfl : k = n := by omega
   have i2 : ¬ (k : Int) < (k : Int) := by omega
   have HF : Hid (OwnW wr w.heap.size (.slice p m1 cc) (keyG l c (colN cl) row)) := by
    have := ownW_base HO.out.1 (Nat.le_succ w.heap.size)
    rw [← HN.out, keyT_all] at this
    exact this
   go_wp2_with fail
   go_ret
   exact ⟨_, rfl, HF.out, xt X0 HO.out.2⟩

end Go.Proofs.YtgpfddneablcpaaGreatDoor

