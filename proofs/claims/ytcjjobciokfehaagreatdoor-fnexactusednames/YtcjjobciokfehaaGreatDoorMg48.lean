/-
  Several texts in one: F7g, Tur, Ss2, Nm.
-/
import Derived.Test.YtcjjobciokfehaaGreatDoorMg1
import Derived.Laws.IdiomStrings
import Derived.BigQuiet
import Derived.Deep.RegionHeld3
import Derived.Deep.QuietTactic
import Derived.Test.YtcjjobciokfehaaGreatDoorMg31
import Derived.Test.YtcjjobciokfehaaGreatDoorMg3
namespace Go.Proofs.YtcjjobciokfehaaGreatDoor
open Go.RowKit

def mtF : Nat → Nat → List UInt8 → List UInt8
 | 0, _, s => s
 | f + 1, k, s => if k = 0 then s else mtF f (k / 10) (UInt8.ofNat (48 + k % 10) :: s)
theorem mtF_zero (f : Nat) (s : List UInt8) : mtF f 0 s = s := by cases f <;> rfl
def markT (k : Nat) : List UInt8 := 109 :: mtF k k []
set_option maxRecDepth 8000 in
set_option maxHeartbeats 2000000 in
theorem markTextL (k : Nat) (w : World) (h1 : 1 ≤ k) (h2 : k ≤ 100000000) :
  Calls Tryz.prog 33 #[.int .i64 k] w fun e w' => e = .returned (sV (markT k)) ∧ Ext w w' := by
 have f1 : decide ((k : Int) ≤ 0) = false := by simp; omega
 obtain ⟨T, hT⟩ : ∃ T, mtF k k [] = T := ⟨_, rfl⟩
 have HT : Hid (mtF k k [] = T) := hT
 have HM : Hid (markT k = 109 :: T) := by show _ = _; unfold markT; rw [hT]
 clear hT
 go_enter Tryz.func33, Tryz.ntmps33
 go_wp2_with fail
 go_loopw [0, 3] (fun a b wr => ∃ (m f : Nat) (s : ByteArray), a = .int .i64 m ∧ b = .string s ∧ m ≤ f ∧ f ≤ 100000000 ∧ Hid (mtF f m s.data.toList = T) ∧ s.size + f ≤ k ∧ Ext w wr) (fun a _ _ => (intOf a).toNat)
 case atStart => exact ⟨k, k, _, rfl, rfl, by omega, h2, HT, by show 0 + k ≤ k; omega, xr _⟩
 case round =>
  obtain ⟨m, f, s, rfl, rfl, hmf, hf, HN, hsz, X⟩ := hrel
  by_cases hm0 : m = 0
  ·
   subst hm0
   have HE : Hid (s.data.toList = T) := by have := HN.out; rw [mtF_zero] at this; exact this
   have hss : (⟨#[109]⟩ : ByteArray).size + s.size ≤ 9223372036854775807 := by show 1 + _ ≤ _; omega
   have HZ : Hid ((⟨#[109]⟩ ++ s : ByteArray) = ⟨(markT k).toArray⟩) := by
    show _ = _
    rw [HM.out, ← HE.out]
    apply ByteArray.ext
    rw [ByteArray.data_append]
    apply Array.ext'
    simp
   go_wp2_with fail
   go_ret
   exact ⟨congrArg (fun z => Ending.returned (Value.string z)) HZ.out, X⟩
  ·
   obtain ⟨f, rfl⟩ : ∃ g, f = g + 1 := ⟨f - 1, by omega⟩
   have hm1 : decide ((m : Int) > 0) = true := by simp; omega
   obtain ⟨a, ha⟩ : ∃ a : Nat, m % 10 = a := ⟨_, rfl⟩
   obtain ⟨q, hq⟩ : ∃ q : Nat, m / 10 = q := ⟨_, rfl⟩
   have ha' : (m : Int).tmod 10 = (a : Int) := by rw [Int.tmod_eq_emod_of_nonneg (by omega)]; omega
   have hq' : (m : Int).tdiv 10 = (q : Int) := by rw [Int.tdiv_eq_ediv_of_nonneg (by omega)]; omega
   have a10 : a < 10 := by omega
   have q200 : q < m := by omega
   have hcv := run_convert_bytes_back (P := Tryz.prog) (wr.alloc (.cells #[.int .u8 (48 + (a : Int))] 5)) 94 9 5 ⟨wr.heap.size, 0, none⟩ 1 [UInt8.ofNat (48 + a)] Tryz.underlying94 Tryz.underlying5 Tryz.underlying9 (fun j hj => by
    have hj' : j = 0 := by simpa using hj
    subst hj'
    simp [go_sem]
    omega)
   rw [List.length_singleton] at hcv
   obtain ⟨t, ht⟩ : ∃ t : ByteArray, (⟨[UInt8.ofNat (48 + a)].toArray⟩ : ByteArray) = t := ⟨_, rfl⟩
   rw [ht] at hcv
   have hts : t.data.toList = [UInt8.ofNat (48 + a)] := by rw [← ht]
   have htz := size_ofL' hts
   have HN2 : Hid (mtF f q (t ++ s).data.toList = T) := by
    have h := HN.out
    unfold mtF at h
    rw [if_neg hm0, ha, hq] at h
    show _ = _
    rw [ByteArray.data_append, Array.toList_append, hts]
    exact h
   simp only [List.length_singleton] at htz
   have hw8 : IntKind.u8.wrap (48 + (a : Int)) = 48 + (a : Int) := by rw [IntKind.wrap_u8]; omega
   clear ha hq hts ht HN HT HM
   go_wp2_with fail
   go_roundw
   case rel => exact ⟨q, f, _, rfl, rfl, by omega, by omega, HN2, by rw [ByteArray.size_append]; omega, xa X _⟩
   case measure => simp [intOf]; omega

/-- The marks from k on. -/
def marksT (k : Nat) : Nat → List (List UInt8)
 | 0 => []
 | n + 1 => markT k :: marksT (k + 1) n
theorem marksT_length (n : Nat) : ∀ k, (marksT k n).length = n := by
 induction n with
 | zero => intro k; rfl
 | succ n ih => intro k; simp [marksT, ih]
theorem marksT_at (n : Nat) : ∀ k j, j < n → (marksT k n)[j]? = some (markT (k + j)) := by
 induction n with
 | zero => intro k j h; omega
 | succ n ih =>
  intro k j h
  cases j with
  | zero => rfl
  | succ j =>
   show (marksT (k + 1) n)[j]? = _
   rw [ih (k + 1) j (by omega)]
   congr 2
   omega
/-- Only the row at g has turned. -/
def Turned (g : Nat) (w w' : World) : Prop := (∀ a, Ext a w → a.heap.size ≤ g → Ext a w') ∧ ∀ b L, b ≠ g → Vec w b L → Vec w' b L
theorem Turned.refl (g : Nat) (w : World) : Turned g w w := ⟨fun _ h _ => h, fun _ _ _ h => h⟩
set_option maxRecDepth 8000 in
set_option maxHeartbeats 2000000 in
theorem heldStrs (g c n k0 : Nat) (w : World) (h : Vec w g ((marksT k0 n).map sV)) (hc : n ≤ c) (hn : n ≤ 3000000) (h1 : 1 ≤ k0) (h2 : k0 ≤ 3000000) :
  Calls Tryz.prog 21 #[.slice (some ⟨g, 0, none⟩) n c, .int .i64 k0] w fun e w' => e = .returned (.int .i64 ((k0 + n : Nat) : Int)) ∧ Ext w w' := by
 have HV : Hid (Vec w g ((marksT k0 n).map sV)) := h
 clear h
 go_enter Tryz.func21, Tryz.ntmps21
 go_wp2_with fail
 go_loopw [1, 5] (fun a i wr => ∃ k : Nat, k ≤ n ∧ i = .int .i64 k ∧ a = .int .i64 ((k0 + k : Nat) : Int) ∧ Ext w wr) (fun _ i _ => n - (intOf i).toNat)
 case atStart => exact ⟨0, by omega, rfl, rfl, xr _⟩
 case round =>
  obtain ⟨k, hk, rfl, rfl, X⟩ := hrel
  by_cases hlt : k < n
  ·
   have i2 : (k : Int) < (n : Int) := by omega
   obtain ⟨m, hm⟩ : ∃ m, k0 + k = m := ⟨_, rfl⟩
   have m1 : m ≤ 6000000 := by omega
   have a0 := ((HV.out.later X) k (sV (markT m)) (by rw [List.getElem?_map, marksT_at _ _ _ hlt, hm]; rfl)).1
   rw [hm]
   obtain ⟨T, hT⟩ : ∃ T, markT m = T := ⟨_, rfl⟩
   have CM : Hid (∀ W, Calls Tryz.prog 33 #[.int .i64 m] W fun e w' => e = .returned (sV T) ∧ Ext W w') := fun W => by rw [← hT]; exact markTextL m W (by omega) (by omega)
   have hp : (T == T) = true := by simp
   have hnx : ((m : Nat) : Int) + 1 = ((k0 + (k + 1) : Nat) : Int) := by omega
   rw [hT] at a0
   clear hT
   go_wp2_with fail
   go_region_held3 (fun w' => w'.cell? ⟨g, k, none⟩ = some (sV T)) (go_keep)
    (first
     | (go_at_call 33; refine (CM.out _).mono ?_; rintro e w' ⟨rfl, E⟩; have Y := xt (xd (xr _)) E; have r0 := cell_later Y a0))
   all_goals
    go_wp2_with fail
    go_roundw
    case rel => exact ⟨k + 1, by omega, by go_num, by first | (rw [hnx]) | (congr 1), xt X Y⟩
    case measure => simp [intOf]; omega
  ·
   obtain rfl : k = n := by omega
   go_wp2_with fail
   go_ret
   exact ⟨rfl, X⟩

/-- Only blocks between two have turned. -/
structure TurnedIn (lo hi : Nat) (w w' : World) : Prop where
 ext : ∀ a, Ext a w → a.heap.size ≤ lo → Ext a w'
 vec : ∀ b L, (b < lo ∨ hi ≤ b) → Vec w b L → Vec w' b L
 size : w.heap.size ≤ w'.heap.size
 cell : ∀ (a : Addr) (u : Value), (a.block < lo ∨ hi ≤ a.block) → w.cell? a = some u → w'.cell? a = some u
 froz : ∀ (a : Addr) (u : Value), (a.block < lo ∨ hi ≤ a.block) → w.cell? a = some u → w.frozen? a = false → w'.frozen? a = false
theorem TurnedIn.refl (lo hi : Nat) (w : World) : TurnedIn lo hi w w := ⟨fun _ h _ => h, fun _ _ _ h => h, Nat.le_refl _, fun _ _ _ h => h, fun _ _ _ _ h => h⟩
theorem TurnedIn.step {lo hi : Nat} {w w1 w2 : World} (h : TurnedIn lo hi w w1) (x : Ext w1 w2) : TurnedIn lo hi w w2 := ⟨fun a ha hg => xt (h.ext a ha hg) x, fun b L hb hL => (h.vec b L hb hL).later x, Nat.le_trans h.size x.size, fun a u ha hu => cell_later x (h.cell a u ha hu), fun a u ha hu hf => frozen_later x (h.cell a u ha hu) (h.froz a u ha hu hf)⟩
theorem TurnedIn.put {lo hi : Nat} {w w1 : World} (h : TurnedIn lo hi w w1) (g j : Nat) (hg : lo ≤ g ∧ g < hi) (u : Value) : TurnedIn lo hi w (w1.setCell ⟨g, j, none⟩ u) :=
 ⟨fun a ha hl => xset (h.ext a ha hl) (p := ⟨g, j, none⟩) (Nat.le_trans hl hg.1) u, fun b L hb hL => (h.vec b L hb hL).far (p := ⟨g, j, none⟩) (fun e => by have : g = b := e; omega) u, Nat.le_trans h.size (by simp [World.setCell]),
  fun a v ha hv => by rw [World.cell?_setCell_other _ _ _ _ (fun e => by rw [← e] at ha; simp at ha; omega)]; exact h.cell a v ha hv, fun a v ha hv hf => by rw [World.frozen?_setCell]; exact h.froz a v ha hv hf⟩

set_option maxRecDepth 8000 in
set_option maxHeartbeats 2000000 in
theorem markStrs2 (v : Value) (l : List (List UInt8)) (b k0 : Nat) (w : World) (h : TxtsOwn w v l b) (hn : l.length ≤ 3000000) (h1 : 1 ≤ k0) (h2 : k0 ≤ 3000000) :
  Calls Tryz.prog 20 #[v, .int .i64 k0] w fun e w' => e = .returned (.int .i64 ((k0 + l.length : Nat) : Int)) ∧ TxtsOwn w' v (marksT k0 l.length) b ∧ TurnedIn b (b + 1) w w' := by
 obtain ⟨p, cap, rfl, hcap, hp, V⟩ := h
 obtain ⟨n, hl⟩ : ∃ n, l.length = n := ⟨_, rfl⟩
 have HP : Hid (0 < n → p = some ⟨b, 0, none⟩) := by rw [← hl]; exact hp
 have H0 : Hid (∃ M : List Value, M.length = n ∧ Vec w b M ∧ ∀ i, i < 0 → M[i]? = some (sV (markT (k0 + i)))) := ⟨l.map sV, by simp [hl], V, fun i hi => by omega⟩
 rw [hl] at hcap hn ⊢
 clear V hp hl
 go_enter Tryz.func20, Tryz.ntmps20
 go_wp2_with fail
 go_loopw [1, 5] (fun a i wr => ∃ k : Nat, k ≤ n ∧ i = .int .i64 k ∧ a = .int .i64 ((k0 + k : Nat) : Int) ∧ Hid (∃ M : List Value, M.length = n ∧ Vec wr b M ∧ ∀ i, i < k → M[i]? = some (sV (markT (k0 + i)))) ∧ Hid (TurnedIn b (b + 1) w wr)) (fun _ i _ => n - (intOf i).toNat)
 case atStart => exact ⟨0, by omega, rfl, rfl, H0, TurnedIn.refl _ _ w⟩
 case round =>
  clear H0
  obtain ⟨k, hk, rfl, rfl, HM, HT⟩ := hrel
  by_cases hlt : k < n
  ·
   obtain rfl := HP.out (by omega)
   have i2 : (k : Int) < (n : Int) := by omega
   obtain ⟨m, hm⟩ : ∃ m, k0 + k = m := ⟨_, rfl⟩
   have m1 : m ≤ 6000000 := by omega
   rw [hm]
   have CM := markTextL m wr (by omega) (by omega)
   go_wp2_with fail
   refine CM.mono ?_
   rintro e w1 ⟨rfl, e1⟩
   obtain ⟨M, q1, q2, q3⟩ := HM.out
   obtain ⟨v0, hv0⟩ : ∃ v, M[k]? = some v := ⟨_, List.getElem?_eq_getElem (by omega)⟩
   have q2 := q2.later e1
   have c0 := (q2 k v0 hv0).1
   have f0 := (q2 k v0 hv0).2
   have HQ : Hid (∃ M : List Value, M.length = n ∧ Vec (w1.setCell ⟨b, k, none⟩ (sV (markT m))) b M ∧ ∀ i, i < k + 1 → M[i]? = some (sV (markT (k0 + i)))) := by
    refine ⟨M.set k (sV (markT m)), by simp [q1], q2.put k (by omega) _, fun i hi => ?_⟩
    by_cases e : i = k
    ·
     subst e
     rw [List.getElem?_set_self (by omega), hm]
    ·
     rw [List.getElem?_set_ne (fun q => e q.symm)]
     exact q3 i (by omega)
   have HU : Hid (TurnedIn b (b + 1) w (w1.setCell ⟨b, k, none⟩ (sV (markT m)))) := (HT.out.step e1).put b k (by omega) _
   obtain ⟨w2, hw2⟩ : ∃ q, w1.setCell ⟨b, k, none⟩ (sV (markT m)) = q := ⟨_, rfl⟩
   rw [hw2] at HQ HU
   have hnx : ((m : Nat) : Int) + 1 = ((k0 + (k + 1) : Nat) : Int) := by omega
   clear HM HT CM q2 q3 hv0 e1
   go_wp2_with fail
   go_roundw
   case rel => exact ⟨k + 1, by omega, by go_num, by first | (rw [hnx]) | (congr 1), HQ, HU⟩
   case measure => simp [intOf]; omega
  ·
   obtain rfl : k = n := by omega
   have HF : Hid (Vec wr b ((marksT k0 k).map sV)) := by
    obtain ⟨M, q1, q2, q3⟩ := HM.out
    intro i v hi
    rw [List.getElem?_map] at hi
    have hik : i < k := by
     rcases Nat.lt_or_ge i k with h' | h'
     ·
      exact h'
     ·
      rw [List.getElem?_eq_none (by rw [marksT_length]; exact h')] at hi; cases hi
    rw [marksT_at _ _ _ hik] at hi
    exact q2 i v ((q3 i hik).trans hi)
   clear HM
   go_wp2_with fail
   go_ret
   exact ⟨rfl, ⟨p, cap, by rw [marksT_length], by rw [marksT_length]; exact hcap, fun h => HP.out (by rw [marksT_length] at h; exact h), HF.out⟩, HT.out⟩

theorem flat14_at : ∀ {L : List NT} {i : Nat} {q : NT}, L[i]? = some q → ∀ (c : Nat), c < 14 → (L.flatMap NT.cells)[i * 14 + c]? = q.cells[c]?
 | x :: L, 0, q, h, c, hc => by
  cases h
  rw [List.flatMap_cons, Nat.zero_mul, Nat.zero_add]
  exact List.getElem?_append_left hc
 | x :: L, i + 1, q, h, c, hc => by
  have : (i + 1) * 14 + c = x.cells.length + (i * 14 + c) := by show _ = 14 + _; omega
  rw [List.flatMap_cons, this, List.getElem?_append_right (by omega), Nat.add_sub_cancel_left]
  exact flat14_at (by simpa using h) c hc
theorem flat14_len : ∀ (L : List NT), (L.flatMap NT.cells).length = L.length * 14
 | [] => rfl
 | x :: L => by
  have h : x.cells.length = 14 := rfl
  rw [List.flatMap_cons, List.length_append, flat14_len L, h]
  show 14 + L.length * 14 = (L.length + 1) * 14
  omega
theorem OwnN.vec {w : World} {g : Nat} {l : List NT} (h : OwnN w g l) : Vec w g (l.flatMap NT.cells) := fun j u hu => by
 have hj : j < l.length * 14 := by rw [← flat14_len]; exact (List.getElem?_eq_some_iff.1 hu).1
 obtain ⟨e, he⟩ : ∃ e, l[j / 14]? = some e := ⟨_, List.getElem?_eq_getElem (by omega)⟩
 have e1 : j = j / 14 * 14 + j % 14 := by omega
 have h2 := flat14_at he (j % 14) (by omega)
 rw [e1, h2] at hu
 have := h (j / 14) e he (j % 14) u hu
 rw [← e1] at this
 exact this
set_option maxRecDepth 8000 in
set_option maxHeartbeats 8000000 in
theorem markNodes (g n : Nat) (L : List Value) (k0 : Nat) (w : World) (hL : L.length = n * 14) (V : Vec w g L) (hn : n ≤ 1048576) (k1 : 1 ≤ k0) (k2 : k0 ≤ 1000) :
  Calls Tryz.prog 14 #[.slice (some ⟨g, 0, none⟩) n n, .int .i64 k0] w fun e w' => e = .returned (.int .i64 ((k0 + n * 14 : Nat) : Int)) ∧ TurnedIn g (g + 1) w w' := by
 have H0 : Hid (∃ M : List Value, M.length = n * 14 ∧ Vec w g M) := ⟨L, hL, V⟩
 clear hL V
 go_enter Tryz.func14, Tryz.ntmps14
 go_wp2_with fail
 go_loopw [1, 5] (fun q i wr => ∃ k : Nat, k ≤ n ∧ i = .int .i64 k ∧ q = .int .i64 ((k0 + k * 14 : Nat) : Int) ∧ Hid (∃ M : List Value, M.length = n * 14 ∧ Vec wr g M) ∧ Hid (TurnedIn g (g + 1) w wr)) (fun _ i _ => n - (intOf i).toNat)
 case atStart => exact ⟨0, by omega, rfl, rfl, H0, TurnedIn.refl _ _ w⟩
 case round =>
  clear H0
  obtain ⟨k, hk, rfl, rfl, HM, HT⟩ := hrel
  by_cases hlt : k < n
  ·
   obtain ⟨M, hM, V⟩ := HM.out
   have G0 := HT.out
   obtain ⟨m, hm⟩ : ∃ m : Nat, k0 + k * 14 = m := ⟨_, rfl⟩
   have hm' : m ≤ 50000000 := by omega
   have hmk : Hid (k0 + (k + 1) * 14 = m + 14) := by show _ = _; omega
   rw [hm]
   have i1 : (0 : Int) ≤ (k : Int) := by omega
   have i2 : (k : Int) < (n : Int) := by omega
   have HMl : Hid (M.length = n * 14) := hM
   clear hm HM HT
   obtain ⟨a0, f0⟩ := V (k * 14) _ (List.getElem?_eq_getElem (by omega))
   have V1 := V.put (k * 14) (by omega) (.int .i64 ((m : Int)))
   have G1 := G0.put g (k * 14) ⟨Nat.le_refl _, Nat.lt_succ_self _⟩ (.int .i64 ((m : Int)))
   have T1 := fun W => markTextL (m + 1) W (by omega) (by omega)
   rw [show ((m + 1 : Nat) : Int) = (m : Int) + 1 by omega] at T1
   clear V G0
   go_wp2_with fail
   clear a0 f0
   refine (T1 _).mono ?_
   rintro e w1 ⟨rfl, e1⟩
   have V1 := V1.later e1
   have G1 := G1.step e1
   clear e1 T1
   obtain ⟨a1, f1⟩ := V1 (k * 14 + 1) _ (List.getElem?_eq_getElem (by simp only [List.length_set]; omega))
   obtain ⟨a2, f2⟩ := V1 (k * 14 + 2) _ (List.getElem?_eq_getElem (by simp only [List.length_set]; omega))
   obtain ⟨a3, f3⟩ := V1 (k * 14 + 3) _ (List.getElem?_eq_getElem (by simp only [List.length_set]; omega))
   obtain ⟨a4, f4⟩ := V1 (k * 14 + 4) _ (List.getElem?_eq_getElem (by simp only [List.length_set]; omega))
   obtain ⟨a5, f5⟩ := V1 (k * 14 + 5) _ (List.getElem?_eq_getElem (by simp only [List.length_set]; omega))
   obtain ⟨a6, f6⟩ := V1 (k * 14 + 6) _ (List.getElem?_eq_getElem (by simp only [List.length_set]; omega))
   obtain ⟨a7, f7⟩ := V1 (k * 14 + 7) _ (List.getElem?_eq_getElem (by simp only [List.length_set]; omega))
   obtain ⟨a8, f8⟩ := V1 (k * 14 + 8) _ (List.getElem?_eq_getElem (by simp only [List.length_set]; omega))
   obtain ⟨a9, f9⟩ := V1 (k * 14 + 9) _ (List.getElem?_eq_getElem (by simp only [List.length_set]; omega))
   obtain ⟨a10, f10⟩ := V1 (k * 14 + 10) _ (List.getElem?_eq_getElem (by simp only [List.length_set]; omega))
   obtain ⟨a11, f11⟩ := V1 (k * 14 + 11) _ (List.getElem?_eq_getElem (by simp only [List.length_set]; omega))
   obtain ⟨a12, f12⟩ := V1 (k * 14 + 12) _ (List.getElem?_eq_getElem (by simp only [List.length_set]; omega))
   obtain ⟨a13, f13⟩ := V1 (k * 14 + 13) _ (List.getElem?_eq_getElem (by simp only [List.length_set]; omega))
   have V2 := V1.put (k * 14 + 1) (by simp only [List.length_set]; omega) (sV (markT (m + 1)))
   have G2 := G1.put g (k * 14 + 1) ⟨Nat.le_refl _, Nat.lt_succ_self _⟩ (sV (markT (m + 1)))
   have V3 := V2.put (k * 14 + 2) (by simp only [List.length_set]; omega) (.bool (((m : Int) + 1 + 1) % 3 == 0))
   have G3 := G2.put g (k * 14 + 2) ⟨Nat.le_refl _, Nat.lt_succ_self _⟩ (.bool (((m : Int) + 1 + 1) % 3 == 0))
   have V4 := V3.put (k * 14 + 3) (by simp only [List.length_set]; omega) (.int .i64 ((m : Int) + 1 + 1 + 1))
   have G4 := G3.put g (k * 14 + 3) ⟨Nat.le_refl _, Nat.lt_succ_self _⟩ (.int .i64 ((m : Int) + 1 + 1 + 1))
   have V5 := V4.put (k * 14 + 4) (by simp only [List.length_set]; omega) (.int .i64 ((m : Int) + 1 + 1 + 1 + 1))
   have G5 := G4.put g (k * 14 + 4) ⟨Nat.le_refl _, Nat.lt_succ_self _⟩ (.int .i64 ((m : Int) + 1 + 1 + 1 + 1))
   have V6 := V5.put (k * 14 + 5) (by simp only [List.length_set]; omega) (.int .i64 ((m : Int) + 1 + 1 + 1 + 1 + 1))
   have G6 := G5.put g (k * 14 + 5) ⟨Nat.le_refl _, Nat.lt_succ_self _⟩ (.int .i64 ((m : Int) + 1 + 1 + 1 + 1 + 1))
   have V7 := V6.put (k * 14 + 6) (by simp only [List.length_set]; omega) (.int .i64 ((m : Int) + 1 + 1 + 1 + 1 + 1 + 1))
   have G7 := G6.put g (k * 14 + 6) ⟨Nat.le_refl _, Nat.lt_succ_self _⟩ (.int .i64 ((m : Int) + 1 + 1 + 1 + 1 + 1 + 1))
   have V8 := V7.put (k * 14 + 7) (by simp only [List.length_set]; omega) (.bool (((m : Int) + 1 + 1 + 1 + 1 + 1 + 1 + 1) % 3 == 0))
   have G8 := G7.put g (k * 14 + 7) ⟨Nat.le_refl _, Nat.lt_succ_self _⟩ (.bool (((m : Int) + 1 + 1 + 1 + 1 + 1 + 1 + 1) % 3 == 0))
   have V9 := V8.put (k * 14 + 8) (by simp only [List.length_set]; omega) (.bool (((m : Int) + 1 + 1 + 1 + 1 + 1 + 1 + 1 + 1) % 3 == 0))
   have G9 := G8.put g (k * 14 + 8) ⟨Nat.le_refl _, Nat.lt_succ_self _⟩ (.bool (((m : Int) + 1 + 1 + 1 + 1 + 1 + 1 + 1 + 1) % 3 == 0))
   have V10 := V9.put (k * 14 + 9) (by simp only [List.length_set]; omega) (.int .i64 ((m : Int) + 1 + 1 + 1 + 1 + 1 + 1 + 1 + 1 + 1))
   have G10 := G9.put g (k * 14 + 9) ⟨Nat.le_refl _, Nat.lt_succ_self _⟩ (.int .i64 ((m : Int) + 1 + 1 + 1 + 1 + 1 + 1 + 1 + 1 + 1))
   have V11 := V10.put (k * 14 + 10) (by simp only [List.length_set]; omega) (.int .i64 ((m : Int) + 1 + 1 + 1 + 1 + 1 + 1 + 1 + 1 + 1 + 1))
   have G11 := G10.put g (k * 14 + 10) ⟨Nat.le_refl _, Nat.lt_succ_self _⟩ (.int .i64 ((m : Int) + 1 + 1 + 1 + 1 + 1 + 1 + 1 + 1 + 1 + 1))
   have V12 := V11.put (k * 14 + 11) (by simp only [List.length_set]; omega) (.bool (((m : Int) + 1 + 1 + 1 + 1 + 1 + 1 + 1 + 1 + 1 + 1 + 1) % 3 == 0))
   have G12 := G11.put g (k * 14 + 11) ⟨Nat.le_refl _, Nat.lt_succ_self _⟩ (.bool (((m : Int) + 1 + 1 + 1 + 1 + 1 + 1 + 1 + 1 + 1 + 1 + 1) % 3 == 0))
   have V13 := V12.put (k * 14 + 12) (by simp only [List.length_set]; omega) (.bool (((m : Int) + 1 + 1 + 1 + 1 + 1 + 1 + 1 + 1 + 1 + 1 + 1 + 1) % 3 == 0))
   have G13 := G12.put g (k * 14 + 12) ⟨Nat.le_refl _, Nat.lt_succ_self _⟩ (.bool (((m : Int) + 1 + 1 + 1 + 1 + 1 + 1 + 1 + 1 + 1 + 1 + 1 + 1) % 3 == 0))
   have V14 := V13.put (k * 14 + 13) (by simp only [List.length_set]; omega) (.int .i64 ((m : Int) + 1 + 1 + 1 + 1 + 1 + 1 + 1 + 1 + 1 + 1 + 1 + 1 + 1))
   have G14 := G13.put g (k * 14 + 13) ⟨Nat.le_refl _, Nat.lt_succ_self _⟩ (.int .i64 ((m : Int) + 1 + 1 + 1 + 1 + 1 + 1 + 1 + 1 + 1 + 1 + 1 + 1 + 1))
   obtain ⟨wf, hwf⟩ : ∃ wf, ((((((((((((w1.setCell ⟨g, k * 14 + 1, none⟩ (sV (markT (m + 1)))).setCell ⟨g, k * 14 + 2, none⟩ (.bool (((m : Int) + 1 + 1) % 3 == 0))).setCell ⟨g, k * 14 + 3, none⟩ (.int .i64 ((m : Int) + 1 + 1 + 1))).setCell ⟨g, k * 14 + 4, none⟩ (.int .i64 ((m : Int) + 1 + 1 + 1 + 1))).setCell ⟨g, k * 14 + 5, none⟩ (.int .i64 ((m : Int) + 1 + 1 + 1 + 1 + 1))).setCell ⟨g, k * 14 + 6, none⟩ (.int .i64 ((m : Int) + 1 + 1 + 1 + 1 + 1 + 1))).setCell ⟨g, k * 14 + 7, none⟩ (.bool (((m : Int) + 1 + 1 + 1 + 1 + 1 + 1 + 1) % 3 == 0))).setCell ⟨g, k * 14 + 8, none⟩ (.bool (((m : Int) + 1 + 1 + 1 + 1 + 1 + 1 + 1 + 1) % 3 == 0))).setCell ⟨g, k * 14 + 9, none⟩ (.int .i64 ((m : Int) + 1 + 1 + 1 + 1 + 1 + 1 + 1 + 1 + 1))).setCell ⟨g, k * 14 + 10, none⟩ (.int .i64 ((m : Int) + 1 + 1 + 1 + 1 + 1 + 1 + 1 + 1 + 1 + 1))).setCell ⟨g, k * 14 + 11, none⟩ (.bool (((m : Int) + 1 + 1 + 1 + 1 + 1 + 1 + 1 + 1 + 1 + 1 + 1) % 3 == 0))).setCell ⟨g, k * 14 + 12, none⟩ (.bool (((m : Int) + 1 + 1 + 1 + 1 + 1 + 1 + 1 + 1 + 1 + 1 + 1 + 1) % 3 == 0))).setCell ⟨g, k * 14 + 13, none⟩ (.int .i64 ((m : Int) + 1 + 1 + 1 + 1 + 1 + 1 + 1 + 1 + 1 + 1 + 1 + 1 + 1)) = wf := ⟨_, rfl⟩
   have HWF : Hid (((((((((((((w1.setCell ⟨g, k * 14 + 1, none⟩ (sV (markT (m + 1)))).setCell ⟨g, k * 14 + 2, none⟩ (.bool (((m : Int) + 1 + 1) % 3 == 0))).setCell ⟨g, k * 14 + 3, none⟩ (.int .i64 ((m : Int) + 1 + 1 + 1))).setCell ⟨g, k * 14 + 4, none⟩ (.int .i64 ((m : Int) + 1 + 1 + 1 + 1))).setCell ⟨g, k * 14 + 5, none⟩ (.int .i64 ((m : Int) + 1 + 1 + 1 + 1 + 1))).setCell ⟨g, k * 14 + 6, none⟩ (.int .i64 ((m : Int) + 1 + 1 + 1 + 1 + 1 + 1))).setCell ⟨g, k * 14 + 7, none⟩ (.bool (((m : Int) + 1 + 1 + 1 + 1 + 1 + 1 + 1) % 3 == 0))).setCell ⟨g, k * 14 + 8, none⟩ (.bool (((m : Int) + 1 + 1 + 1 + 1 + 1 + 1 + 1 + 1) % 3 == 0))).setCell ⟨g, k * 14 + 9, none⟩ (.int .i64 ((m : Int) + 1 + 1 + 1 + 1 + 1 + 1 + 1 + 1 + 1))).setCell ⟨g, k * 14 + 10, none⟩ (.int .i64 ((m : Int) + 1 + 1 + 1 + 1 + 1 + 1 + 1 + 1 + 1 + 1))).setCell ⟨g, k * 14 + 11, none⟩ (.bool (((m : Int) + 1 + 1 + 1 + 1 + 1 + 1 + 1 + 1 + 1 + 1 + 1) % 3 == 0))).setCell ⟨g, k * 14 + 12, none⟩ (.bool (((m : Int) + 1 + 1 + 1 + 1 + 1 + 1 + 1 + 1 + 1 + 1 + 1 + 1) % 3 == 0))).setCell ⟨g, k * 14 + 13, none⟩ (.int .i64 ((m : Int) + 1 + 1 + 1 + 1 + 1 + 1 + 1 + 1 + 1 + 1 + 1 + 1 + 1)) = wf) := hwf
   rw [hwf] at V14 G14
   have HF : Hid (∃ M : List Value, M.length = n * 14 ∧ Vec wf g M) := ⟨_, by simp only [List.length_set]; exact HMl.out, V14⟩
   have HG : Hid (TurnedIn g (g + 1) w wf) := G14
   clear V1 G1 V2 G2 V3 G3 V4 G4 V5 G5 V6 G6 V7 G7 V8 G8 V9 G9 V10 G10 V11 G11 V12 G12 V13 G13 V14 G14 hwf
   go_wp2_with fail
   rw [HWF.out]
   go_roundw
   case rel => exact ⟨k + 1, by omega, by go_num, by rw [hmk.out]; go_num, HF, HG⟩
   case measure => simp [intOf]; omega
  ·
   obtain rfl : k = n := by omega
   go_wp2_with fail
   go_ret
   exact ⟨rfl, HT.out⟩

end Go.Proofs.YtcjjobciokfehaaGreatDoor

