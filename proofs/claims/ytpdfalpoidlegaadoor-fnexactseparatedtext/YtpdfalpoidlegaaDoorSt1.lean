/-
  Chapter 14: rows of bytes that grow; a text in quotes, by the specification.
-/
import Derived.Test.YtpdfalpoidlegaaDoorSt0
import Derived.Test.YtpdfalpoidlegaaDoorAs0
import Derived.Test.YtpdfalpoidlegaaDoorFa
import Derived.Lib.AppendZeros
import Derived.Laws.IdiomStrings
namespace Go.Proofs.YtpdfalpoidlegaaDoor
open Go.RowKit

/-- A row of bytes of one's own. -/
abbrev OwnY (w : World) (base : Nat) (v : Value) (l : List UInt8) : Prop := w.ownsRow base 5 1 v l.length (encB l)
theorem ownY_nil (w : World) (base : Nat) : OwnY w base (.slice none 0 0) [] := World.ownsRow_nil _ _ _ _
theorem ownY_lt {w : World} {base : Nat} {v : Value} {l : List UInt8} (h : OwnY w base v l) : ∀ r, v.ownBlock = some r → base ≤ r ∧ r < w.heap.size := by
  intro r hr
  rcases h.2 with ⟨rfl, _⟩ | ⟨g, cap, cur, rfl, h2, h3, _⟩
  · cases hr
  · have : g = r := by simpa [Value.ownBlock] using hr
    subst this
    refine ⟨h2, ?_⟩
    rcases Nat.lt_or_ge g w.heap.size with h' | h'
    · exact h'
    · rw [Array.getElem?_eq_none h'] at h3; cases h3
theorem ownY_later {w w' : World} {base : Nat} {v : Value} {l : List UInt8} (h : OwnY w base v l) (hx : Ext w w') : OwnY w' base v l := by
  refine ⟨h.1, h.2.imp id ?_⟩
  rintro ⟨g, cap, cur, rfl, h2, h3, h4⟩
  exact ⟨g, cap, cur, rfl, h2, by rw [hx.block g (ownY_lt h g rfl).2]; exact h3, h4⟩
theorem ownY_slice {w : World} {base : Nat} {v : Value} {l : List UInt8} (h : OwnY w base v l) : ∃ p c, v = .slice p l.length c ∧ l.length ≤ c := by
  rcases h.2 with ⟨rfl, h0⟩ | ⟨g, cap, cur, rfl, _, _, h3, _⟩
  · exact ⟨none, 0, by rw [h0], by omega⟩
  · exact ⟨_, _, rfl, h3⟩
theorem infoY : ∃ inf, Tryd.prog.info? 5 = some inf ∧ inf.zero = some (.int .u8 0) ∧ inf.size = 1 ∧ inf.bytes = 1 := by
  have h : (Tryd.prog.info? 5).map (fun i => (i.zero, i.size, i.bytes)) = some (some (.int .u8 0), 1, 1) := by kernel_rfl
  cases h' : Tryd.prog.info? 5 with
  | none => rw [h'] at h; cases h
  | some inf =>
    rw [h'] at h
    simp at h
    exact ⟨inf, rfl, h.1, h.2.1, h.2.2⟩
theorem encB_append (l m : List UInt8) : encB (l ++ m) = encB l ++ encB m := by simp [encB]
/-- One more byte. -/
theorem app_byte (w : World) (base : Nat) (v : Value) (l : List UInt8) (O : OwnY w base v l) (c : UInt8) (b : Nat) (V : Vec w b [.int .u8 (c.toNat : Int)]) (hl : l.length ≤ 9000000) (hb : base ≤ w.heap.size) :
    ∃ v' w', (Builtin.append_ #[31, 31] 31 #[v, .slice (some ⟨b, 0, none⟩) 1 1]).run Tryd.prog w = .ok v' w' ∧ OwnY w' base v' (l ++ [c]) ∧ w.grownBy w' v.ownBlock := by
  obtain ⟨inf, hi, hz, hsz, hby⟩ := infoY
  obtain ⟨v', w', hrun, O', GW, _⟩ := app_srcG (P := Tryd.prog) w base 31 31 31 5 inf (.int .u8 0) Tryd.underlying31 hi hz 1 hsz (by rw [hby]; omega) rfl v l.length _ O (.slice (some ⟨b, 0, none⟩) 1 1) 1 [.int .u8 (c.toNat : Int)]
    (Src.ofSlice (size := 1) w Tryd.underlying31 ⟨b, 0, none⟩ 1 1 [.int .u8 (c.toNat : Int)] rfl (fun j u hj => by rw [Addr.add_lit, Nat.zero_add]; exact (V j u hj).1) (fun u hu => by simp at hu; subst hu; rfl)) (by omega) hb
  refine ⟨v', w', hrun, ?_, GW⟩
  show World.ownsRow _ _ _ _ _ _ _
  rw [List.length_append, encB_append]
  exact O'
/-- A text behind it. -/
theorem app_text (w : World) (base : Nat) (v : Value) (l : List UInt8) (O : OwnY w base v l) (t : List UInt8) (hl : l.length + t.length ≤ 9000000) (hb : base ≤ w.heap.size) :
    ∃ v' w', (Builtin.append_ #[31, 9] 31 #[v, sV t]).run Tryd.prog w = .ok v' w' ∧ OwnY w' base v' (l ++ t) ∧ w.grownBy w' v.ownBlock := by
  obtain ⟨inf, hi, hz, hsz, hby⟩ := infoY
  obtain ⟨v', w', hrun, O', GW, _⟩ := app_srcG (P := Tryd.prog) w base 31 9 31 5 inf (.int .u8 0) Tryd.underlying31 hi hz 1 hsz (by rw [hby]; omega) rfl v l.length _ O (sV t) t.length (encB t)
    (Src.ofString w Tryd.underlying9 ⟨t.toArray⟩) (by omega) hb
  refine ⟨v', w', hrun, ?_, GW⟩
  show World.ownsRow _ _ _ _ _ _ _
  rw [List.length_append, encB_append]
  exact O'
/-- A world grown in its own rows. -/
theorem ext_rowY {w0 w w' : World} {row : Option Nat} (x : Ext w0 w) (g : w.grownBy w' row) (h : ∀ r, row = some r → w0.heap.size ≤ r) : Ext w0 w' :=
  ⟨g.os.trans x.os, g.tape.trans x.tape, g.output.trans x.output, Nat.le_trans x.size g.size, fun k hk => (g.block k (Nat.lt_of_lt_of_le hk x.size) (fun e => by have := h k e.symm; omega)).trans (x.block k hk)⟩
/-- The row as a text. -/
theorem conv_text {w : World} {base : Nat} {v : Value} {l : List UInt8} (O : OwnY w base v l) : (convert 31 9 v).run Tryd.prog w = .ok (sV l) w := by
  rcases O.2 with ⟨rfl, h0⟩ | ⟨g, cap, cur, rfl, _⟩
  · have : l = [] := List.eq_nil_of_length_eq_zero h0
    subst this
    rw [run_convert_bytes_string w 31 9 5 none 0 0 Tryd.underlying31 Tryd.underlying5 Tryd.underlying9]
    rfl
  · refine run_convert_bytes_back (P := Tryd.prog) w 31 9 5 ⟨g, 0, none⟩ cap l Tryd.underlying31 Tryd.underlying5 Tryd.underlying9 (fun j hj => ?_)
    exact O.cells (g := g) rfl j _ (encB_at (List.getElem?_eq_getElem hj))

/-- One byte made ahead, and put behind. -/
theorem put_byte (w0 w : World) (v : Value) (l : List UInt8) (c : UInt8) (x : Ext w0 w) (O : OwnY w w0.heap.size v l) (hl : l.length ≤ 9000000) :
    ∃ p n q w2, (Builtin.append_ #[31, 31] 31 #[v, .slice (some ⟨w.heap.size, 0, none⟩) 1 1]).run Tryd.prog (w.alloc (.cells #[.int .u8 (c.toNat : Int)] 5)) = .ok (.slice p n q) w2 ∧ OwnY w2 w0.heap.size (.slice p n q) (l ++ [c]) ∧ Ext w0 w2 := by
  have X := x1 w (.cells #[.int .u8 (c.toNat : Int)] 5)
  have V := vec_made w [.int .u8 (c.toNat : Int)] 5
  obtain ⟨v', w', hrun, O', GW⟩ := app_byte _ _ v l (ownY_later O X) c w.heap.size V hl (Nat.le_trans x.size X.size)
  obtain ⟨p, q, rfl, _⟩ := ownY_slice O'
  exact ⟨p, _, q, w', hrun, O', ext_rowY (xt x X) GW (fun r hr => (ownY_lt O r hr).1)⟩
theorem put_text (w0 w : World) (v : Value) (l : List UInt8) (t : List UInt8) (x : Ext w0 w) (O : OwnY w w0.heap.size v l) (hl : l.length + t.length ≤ 9000000) :
    ∃ p n q w2, (Builtin.append_ #[31, 9] 31 #[v, sV t]).run Tryd.prog w = .ok (.slice p n q) w2 ∧ OwnY w2 w0.heap.size (.slice p n q) (l ++ t) ∧ Ext w0 w2 := by
  obtain ⟨v', w', hrun, O', GW⟩ := app_text w _ v l O t hl x.size
  obtain ⟨p, q, rfl, _⟩ := ownY_slice O'
  exact ⟨p, _, q, w', hrun, O', ext_rowY x GW (fun r hr => (ownY_lt O r hr).1)⟩

set_option maxRecDepth 8000 in
set_option maxHeartbeats 4000000 in
theorem quotedS (f : List UInt8) (w : World) (hl : f.length ≤ 1048576) :
    Calls Tryd.prog 11 #[sV f] w fun e w' => e = .returned (sV (quoT f)) ∧ Ext w w' := by
  obtain ⟨s, hs⟩ : ∃ s : ByteArray, (⟨f.toArray⟩ : ByteArray) = s := ⟨_, rfl⟩
  have hsl : s.data.toList = f := by rw [← hs]
  have hsz := size_ofL' hsl
  show Calls Tryd.prog 11 #[.string ⟨f.toArray⟩] w _
  rw [hs]
  clear hs
  obtain ⟨n, hn⟩ : ∃ n, f.length = n := ⟨_, rfl⟩
  have HN : Hid (f.length = n) := hn
  have HS : Hid (s.data.toList = f) := hsl
  rw [hn] at hl hsz
  clear hn hsl
  have V0 := vec_made w [.int .u8 34] 5
  have X0 := x1 w (.cells #[.int .u8 34] 5)
  change Vec (w.alloc (.cells #[.int .u8 34] 5)) _ _ at V0
  have O0 : Hid (OwnY (w.alloc (.cells #[.int .u8 34] 5)) w.heap.size (.slice (some ⟨w.heap.size, 0, none⟩) 1 1) (34 :: quoF (f.take 0)) ∧ Ext w (w.alloc (.cells #[.int .u8 34] 5))) := by
    refine ⟨⟨rfl, .inr ⟨w.heap.size, 1, #[.int .u8 34], rfl, Nat.le_refl _, heap_alloc_new w _, Nat.le_refl _, by simp [maxLen], rfl, rfl⟩⟩, X0⟩
  obtain ⟨wa, ha⟩ : ∃ q, w.alloc (.cells #[.int .u8 34] 5) = q := ⟨_, rfl⟩
  rw [ha] at O0
  clear V0 X0
  go_enter Tryd.func11, Tryd.ntmps11
  go_wp2_with fail
  go_loopw [3, 4] (fun v i wr => ∃ (k m c : Nat) (p : Option Addr), k ≤ n ∧ i = .int .i64 k ∧ v = .slice p m c ∧ Hid (OwnY wr w.heap.size (.slice p m c) (34 :: quoF (f.take k)) ∧ Ext w wr)) (fun _ i _ => n - (intOf i).toNat)
  case atStart => exact ⟨0, 1, 1, _, by omega, rfl, rfl, O0⟩
  case round =>
    clear O0 ha
    obtain ⟨k, m, c, p, hk, rfl, rfl, HO⟩ := hrel
    obtain ⟨O, X⟩ := HO.out
    have hqt : (34 :: quoF (f.take k)).length ≤ 3000000 := by
      have := quoF_length (f.take k)
      rw [List.length_take, HN.out] at this
      rw [List.length_cons]
      omega
    by_cases hlt : k < n
    · have hks : k < s.size := by omega
      have hb0 := byte_atA HS.out hks
      obtain ⟨b, hb⟩ : ∃ b, f[k]? = some b := ⟨_, List.getElem?_eq_getElem (by rw [HN.out]; exact hlt)⟩
      have hgd : f.getD k 0 = b := by rw [List.getD, hb]; rfl
      rw [hgd] at hb0
      have hbn : ((s[k]'hks).toNat : Int) = (b.toNat : Int) := by rw [hb0]
      have HQ : Hid (quoF (f.take (k + 1)) = quoF (f.take k) ++ (if b = 34 then [34, 34] else [b])) := quoF_take hb
      have i2 : (k : Int) < (n : Int) := by omega
      clear hb0 hb hgd
      by_cases h34 : b = 34
      · subst h34
        have n1 : (((34 : UInt8).toNat : Int)) = 34 := rfl
        rw [n1] at hbn
        obtain ⟨p1, m1, c1, w1, hrun1, O1, X1⟩ := put_byte w wr _ _ 34 X O (by omega)
        obtain ⟨p2, m2, c2, w2, hrun2, O2, X2⟩ := put_byte w w1 _ _ 34 X1 O1 (by rw [List.length_append, List.length_singleton]; omega)
        have HK : Hid (OwnY w2 w.heap.size (.slice p2 m2 c2) (34 :: quoF (f.take (k + 1))) ∧ Ext w w2) := by
          rw [HQ.out, if_pos rfl]
          refine ⟨?_, X2⟩
          have e : (34 :: (quoF (f.take k) ++ [34, 34]) : List UInt8) = 34 :: quoF (f.take k) ++ [34] ++ [34] := by simp
          rw [e]
          exact O2
        rw [n1] at hrun1 hrun2
        obtain ⟨wa, ha⟩ : ∃ q, wr.alloc (.cells #[.int .u8 34] 5) = q := ⟨_, rfl⟩
        obtain ⟨wb, hb⟩ : ∃ q, w1.alloc (.cells #[.int .u8 34] 5) = q := ⟨_, rfl⟩
        rw [ha] at hrun1
        rw [hb] at hrun2
        clear HO O X O1 X1 O2 X2 hqt
        go_wp2_with (at_builtin; first | refine Lib.wpList_append_run _ rfl _ _ _ _ rfl _ _ rfl rfl _ _ hrun1 ?_ | refine Lib.wpList_append_run _ rfl _ _ _ _ rfl _ _ rfl rfl _ _ hrun2 ?_)
        go_roundw
        case rel => exact ⟨k + 1, m2, c2, p2, by omega, by go_num, rfl, HK⟩
        case measure => simp [intOf]; omega
      · obtain ⟨N, hN⟩ : ∃ N : Int, (b.toNat : Int) = N := ⟨_, rfl⟩
        have n1 : (N == 34) = false := by
          have : b.toNat ≠ 34 := fun e => h34 (UInt8.toNat_inj.1 e)
          simp
          omega
        obtain ⟨p1, m1, c1, w1, hrun1, O1, X1⟩ := put_byte w wr _ _ b X O (by omega)
        have HK : Hid (OwnY w1 w.heap.size (.slice p1 m1 c1) (34 :: quoF (f.take (k + 1))) ∧ Ext w w1) := by
          rw [HQ.out, if_neg h34]
          exact ⟨O1, X1⟩
        rw [hN] at hbn hrun1
        obtain ⟨wa, ha⟩ : ∃ q, wr.alloc (.cells #[.int .u8 N] 5) = q := ⟨_, rfl⟩
        rw [ha] at hrun1
        clear HO O X O1 X1 hqt hN h34
        go_wp2_with (at_builtin; refine Lib.wpList_append_run _ rfl _ _ _ _ rfl _ _ rfl rfl _ _ hrun1 ?_)
        go_wp2_with fail
        go_roundw
        case rel => exact ⟨k + 1, m1, c1, p1, by omega, by go_num, rfl, HK⟩
        case measure => simp [intOf]; omega
    · obtain rfl : k = n := by omega
      obtain ⟨p1, m1, c1, w1, hrun1, O1, X1⟩ := put_byte w wr _ _ 34 X O (by omega)
      have HC := conv_text O1
      have n1 : (((34 : UInt8).toNat : Int)) = 34 := rfl
      rw [n1] at hrun1
      obtain ⟨wa, ha⟩ : ∃ q, wr.alloc (.cells #[.int .u8 34] 5) = q := ⟨_, rfl⟩
      rw [ha] at hrun1
      have HT : Hid (34 :: quoF (f.take k) ++ [34] = quoT f) := by
        show _ = _
        rw [List.take_of_length_le (by rw [HN.out]; omega)]
        rfl
      rw [HT.out] at HC
      have HX : Hid (Ext w w1) := X1
      clear HO O X O1 X1 hqt
      go_wp2_with (at_builtin; refine Lib.wpList_append_run _ rfl _ _ _ _ rfl _ _ rfl rfl _ _ hrun1 ?_)
      go_wp2_with fail
      go_ret
      exact ⟨rfl, HX.out⟩

end Go.Proofs.YtpdfalpoidlegaaDoor
