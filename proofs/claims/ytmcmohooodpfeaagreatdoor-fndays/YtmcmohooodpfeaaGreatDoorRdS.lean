/-
  The specification reads a date's text.
-/
import Derived.Test.YtmcmohooodpfeaaGreatDoorRdN
import Derived.Test.YtmcmohooodpfeaaGreatDoorDatW
namespace Go.Proofs.YtmcmohooodpfeaaGreatDoor
open Go.RowKit

theorem numF_bad (acc : Int) (c : UInt8) (r : List UInt8) (h : isDig c = false) : numF acc (c :: r) = -1 := by rw [numF, h]; rfl
theorem numF_good (acc : Int) (c : UInt8) (r : List UInt8) (h : isDig c = true) : numF acc (c :: r) = numF (acc * 10 + ((c.toNat : Int) - 48)) r := by rw [numF, h]; rfl
theorem drop_at {l : List UInt8} {i : Nat} (h : i < l.length) : l.drop i = l.getD i 0 :: l.drop (i + 1) := by
  rw [List.drop_eq_getElem_cons h]
  simp [h]

theorem byte_at {s : ByteArray} {l : List UInt8} (h : s.data.toList = l) {p : Nat} (hp : p < s.size) : (s[p]'hp) = l.getD p 0 := by
  subst h
  simp only [ByteArray.getElem_eq_getElem_data]
  have hp' : p < s.data.size := hp
  simp only [List.getD, Array.getElem?_toList]
  rw [Array.getElem?_eq_getElem hp']
  rfl

set_option maxHeartbeats 400000 in
theorem digitS (n : Int) (w : World) :
    Calls Tryz.prog 63 #[.int .u8 n] w fun e w' => e = .returned (.bool (decide (48 ≤ n ∧ n ≤ 57))) ∧ w' = w := by
  go_enter Tryz.func63, Tryz.ntmps63
  go_wp2
  all_goals go_ret
  all_goals refine ⟨ret_bool ?_, rfl⟩
  all_goals simp_all
  all_goals (intros; omega)

set_option maxRecDepth 4000 in
set_option maxHeartbeats 1000000 in
theorem numS (s : ByteArray) (l : List UInt8) (w : World) (hs : s.data.toList = l) :
    Calls Tryz.prog 47 #[.string s] w fun e w' => e = .returned (.int .i64 (numL l)) ∧ w' = w := by
  have hsz := size_ofL hs
  by_cases hl : 1 ≤ l.length ∧ l.length ≤ 6
  · have HR : Hid (numL l = numF 0 l) := by show _ = _; unfold numL; rw [if_pos hl]
    obtain ⟨L, hL⟩ : ∃ L, l.length = L := ⟨_, rfl⟩
    have HL : Hid (l.length = L) := hL
    rw [hL] at hsz hl
    rw [HR.out]
    have f1 : decide ((L : Int) < 1) = false := by simp; omega
    have f2 : decide ((L : Int) > 6) = false := by simp; omega
    have HS : Hid (s.data.toList = l) := hs
    clear hL hs HR
    go_enter Tryz.func47, Tryz.ntmps47
    go_wp2_with fail
    go_loop [3, 4] (fun a i => ∃ (k : Nat) (acc : Int), k ≤ L ∧ i = .int .i64 k ∧ a = .int .i64 acc ∧ 0 ≤ acc ∧ Hid (acc < 10 ^ k) ∧ Hid (numF acc (l.drop k) = numF 0 l)) (fun _ i => L - (intOf i).toNat)
    case atStart => exact ⟨0, 0, by omega, rfl, rfl, by omega, by simp [Hid], by simp [Hid]⟩
    case round =>
      obtain ⟨k, acc, hk, rfl, rfl, a0, HA, HN⟩ := hrel
      by_cases hlt : k < L
      · have hlt' : (k : Int) < (L : Int) := by omega
        have hdr := drop_at (l := l) (i := k) (by rw [HL.out]; exact hlt)
        have hks : k < s.size := by omega
        have hb0 := byte_at HS.out hks
        obtain ⟨c, hcc⟩ : ∃ c, l.getD k 0 = c := ⟨_, rfl⟩
        rw [hcc] at hdr hb0
        have hb : ((s[k]'hks).toNat : Int) = (c.toNat : Int) := by rw [hb0]
        have c255 := c.toNat_lt
        have HN1 := HN.out
        rw [hdr] at HN1
        have ka : acc < 1000000 := by
          have h1 := HA.out
          have h2 : (10 : Int) ^ k ≤ 10 ^ 5 := by
            have := Nat.pow_le_pow_right (n := 10) (by decide) (show k ≤ 5 by omega)
            exact_mod_cast this
          have h3 : (10 : Int) ^ 5 = 100000 := by decide
          omega
        obtain ⟨N, hN⟩ : ∃ N : Int, (c.toNat : Int) = N := ⟨_, rfl⟩
        rw [hN] at hb
        have n255 : 0 ≤ N ∧ N ≤ 255 := by omega
        have DG := fun w => digitS N w
        by_cases hd : 48 ≤ N ∧ N ≤ 57
        · have HN2 : Hid (numF (acc * 10 + (N - 48)) (l.drop (k + 1)) = numF 0 l) := by
            rw [numF_good _ _ _ (by simp [isDig]; omega), hN] at HN1
            exact HN1
          have HA2 : Hid (acc * 10 + (N - 48) < 10 ^ (k + 1)) := by
            have h1 := HA.out
            show _ < _
            rw [Int.pow_succ]
            omega
          simp only [hd, and_self, decide_true] at DG
          have hw8 : IntKind.u8.wrap (N - 48) = N - 48 := by rw [IntKind.wrap_u8]; omega
          clear HN1 hdr hb0 HN HA hN c255 hcc f1 f2
          go_wp2_with (go_at_call 63; refine (DG _).mono ?_; rintro e w' ⟨rfl, rfl⟩)
          go_round
          case rel => exact ⟨k + 1, acc * 10 + (N - 48), by omega, by go_num, by go_num, by omega, HA2, HN2⟩
          case measure => simp [intOf]; omega
        · have HN2 : Hid (numF 0 l = -1) := by
            rw [numF_bad _ _ _ (by simp [isDig]; omega)] at HN1
            exact HN1.symm
          simp only [hd, decide_false] at DG
          clear HN1 hdr hb0 HN HA hN c255 hcc f1 f2
          go_wp2_with (go_at_call 63; refine (DG _).mono ?_; rintro e w' ⟨rfl, rfl⟩)
          go_ret
          exact ⟨ret_int HN2.out.symm, rfl⟩
      · obtain rfl : k = L := by omega
        have HN2 : Hid (acc = numF 0 l) := by
          have h := HN.out
          rw [List.drop_of_length_le (by rw [HL.out]; omega), numF] at h
          exact h
        clear HN HA f1 f2
        go_wp2_with fail
        go_ret
        exact ⟨ret_int HN2.out, rfl⟩
  · have HR : Hid (numL l = -1) := by show _ = _; unfold numL; rw [if_neg hl]
    obtain ⟨L, hL⟩ : ∃ L, l.length = L := ⟨_, rfl⟩
    rw [hL] at hsz hl
    rw [HR.out]
    clear hL hs HR
    by_cases h1 : L < 1
    · have f1 : decide ((L : Int) < 1) = true := by simp; omega
      go_enter Tryz.func47, Tryz.ntmps47
      go_wp2_with fail
      go_ret
      exact ⟨rfl, rfl⟩
    · have f1 : decide ((L : Int) < 1) = false := by simp; omega
      have f2 : decide ((L : Int) > 6) = true := by simp; omega
      go_enter Tryz.func47, Tryz.ntmps47
      go_wp2_with fail
      go_ret
      exact ⟨rfl, rfl⟩

/-- What ReadDate answers. -/
def RdOK (t : ByteArray) (cal : Int) (r : Option Int) : Prop := (∃ y m d, HasText t y m d ∧ r = dayP cal y m d) ∨ ((∀ y m d, ¬ HasText t y m d) ∧ r = none)
theorem dateL_inj {n n' : Bool} {u m d u' m' d' : Nat} (hu : u ≤ 9999) (hm : m ≤ 99) (hd : d ≤ 99) (hu' : u' ≤ 9999) (hm' : m' ≤ 99) (hd' : d' ≤ 99) (h : dateL n u m d = dateL n' u' m' d') : n = n' ∧ u = u' ∧ m = m' ∧ d = d' := by
  have inj : ∀ {a b : Nat}, a < 10 → b < 10 → dig a = dig b → a = b := fun {a b} ha hb e => by
    have := congrArg UInt8.toNat e
    rw [dig_toNat ha, dig_toNat hb] at this
    omega
  have hl := congrArg List.length h
  have en : n = n' := by
    cases n <;> cases n' <;> simp [dateL] at hl ⊢
  subst en
  have h2 : [dig (u / 1000), dig (u / 100 % 10), dig (u / 10 % 10), dig (u % 10), 45, dig (m / 10), dig (m % 10), 45, dig (d / 10), dig (d % 10)] = [dig (u' / 1000), dig (u' / 100 % 10), dig (u' / 10 % 10), dig (u' % 10), 45, dig (m' / 10), dig (m' % 10), 45, dig (d' / 10), dig (d' % 10)] := by
    unfold dateL at h
    exact List.append_cancel_left h
  simp only [List.cons.injEq, true_and, and_true] at h2
  obtain ⟨a, b, c, e, f, g, i, j⟩ := h2
  have := inj (by omega) (by omega) a
  have := inj (by omega) (by omega) b
  have := inj (by omega) (by omega) c
  have := inj (by omega) (by omega) e
  have := inj (by omega) (by omega) f
  have := inj (by omega) (by omega) g
  have := inj (by omega) (by omega) i
  have := inj (by omega) (by omega) j
  exact ⟨rfl, by omega, by omega, by omega⟩
theorem HasText.one {t : ByteArray} {y m d y' m' d' : Int} (h : HasText t y m d) (h' : HasText t y' m' d') : y = y' ∧ m = m' ∧ d = d' := by
  have e := h.2.trans h'.2.symm
  have e2 : (dateB y m d).data.toList = (dateB y' m' d').data.toList := by rw [e]
  rw [dateB_list h.1, dateB_list h'.1] at e2
  obtain ⟨hy, hm, hd⟩ := h.1
  obtain ⟨hy', hm', hd'⟩ := h'.1
  obtain ⟨a, b, c, f⟩ := dateL_inj (by omega) (by omega) (by omega) (by omega) (by omega) (by omega) e2
  have a' : y < 0 ↔ y' < 0 := by
    have := congrArg (· = true) a
    simpa using this
  omega
theorem RdOK.one {t : ByteArray} {cal : Int} {r r' : Option Int} (h : RdOK t cal r) (h' : RdOK t cal r') : r = r' := by
  rcases h with ⟨y, m, d, a, rfl⟩ | ⟨a, rfl⟩ <;> rcases h' with ⟨y', m', d', b, rfl⟩ | ⟨b, rfl⟩
  · obtain ⟨rfl, rfl, rfl⟩ := a.one b
    rfl
  · exact (b _ _ _ a).elim
  · exact (a _ _ _ b).elim
  · rfl
/-- What a date's text is, whatever the date. -/
theorem RdOK.of_parse {t : ByteArray} {cal y m d : Int} {s : ByteArray} (ht : t.size ≠ 0) (hs : (DText y m d ∧ s = dateB y m d) ∨ (¬ DText y m d ∧ s = ⟨#[]⟩)) (hp : ∀ y' m' d', HasText t y' m' d' → y = y' ∧ m = m' ∧ d = d') :
    (s = t → RdOK t cal (dayP cal y m d)) ∧ (s ≠ t → RdOK t cal none) := by
  constructor
  · rintro rfl
    rcases hs with ⟨a, b⟩ | ⟨a, b⟩
    · exact .inl ⟨y, m, d, ⟨a, b.symm⟩, rfl⟩
    · exact (ht (by rw [b]; rfl)).elim
  · intro hne
    refine .inr ⟨fun y' m' d' h => ?_, rfl⟩
    obtain ⟨rfl, rfl, rfl⟩ := hp _ _ _ h
    rcases hs with ⟨a, b⟩ | ⟨a, b⟩
    · exact hne (b.trans h.2)
    · exact a h.1

end Go.Proofs.YtmcmohooodpfeaaGreatDoor
