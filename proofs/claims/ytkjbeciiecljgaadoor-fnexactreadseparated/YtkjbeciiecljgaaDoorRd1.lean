/-
  Chapter 14: a text in quotes taken out of them, by the program.
-/
import Derived.Test.YtkjbeciiecljgaaDoorRd0
import Derived.Test.YtkjbeciiecljgaaDoorFa
import Derived.Test.YtkjbeciiecljgaaDoorShelf
import Derived.WalkMore
import Derived.ScopeJumps
namespace Go.Proofs.YtkjbeciiecljgaaDoor
open Go.RowKit

theorem quoU_two (b c : UInt8) (r : List UInt8) : quoU (b :: c :: r) = if b = 34 then (if c = 34 then (quoU r).map (fun p => (34 :: p.1, p.2 + 2)) else some ([], 1)) else (quoU (c :: r)).map (fun p => (b :: p.1, p.2 + 1)) := by rw [quoU]
theorem quoU_none {s : List UInt8} (h : ∀ b ∈ s, b ≠ 34) : quoU s = none := by
  match s, h with
  | [], _ => rfl
  | [b], h => unfold quoU; rw [if_neg (h b (by simp))]
  | b :: c :: r, h =>
    rw [quoU_two, if_neg (h b (by simp)), quoU_none (s := c :: r) (fun x hx => h x (by simp at hx ⊢; exact .inr hx))]
    rfl
theorem quoU_pre {x y : List UInt8} (h : ∀ b ∈ x, b ≠ 34) : quoU (x ++ 34 :: y) = if y.head? = some 34 then (quoU y.tail).map (fun p => (x ++ 34 :: p.1, p.2 + x.length + 2)) else some (x, x.length + 1) := by
  induction x with
  | nil =>
    cases y with
    | nil => rfl
    | cons c r =>
      rw [List.nil_append, quoU_two, if_pos rfl]
      by_cases hc : c = 34
      · subst hc
        rw [if_pos rfl, if_pos (show ((34 : UInt8) :: r).head? = some 34 from rfl)]
        simp
      · rw [if_neg hc, if_neg (by simpa using hc)]
        rfl
  | cons b x ih =>
    have ih := ih (fun c hc => h c (by simp [hc]))
    have hb := h b (by simp)
    cases hx : x ++ 34 :: y with
    | nil => simp at hx
    | cons c r =>
      rw [List.cons_append, hx, quoU_two, if_neg hb, ← hx, ih]
      by_cases hy : y.head? = some 34
      · rw [if_pos hy, if_pos hy, Option.map_map]
        cases quoU y.tail with
        | none => rfl
        | some p => simp; omega
      · rw [if_neg hy, if_neg hy]
        simp
theorem indexByte_pre {l : List UInt8} {c : UInt8} {k : Nat} (h : Lib.indexByte l c = k) : k < l.length ∧ l[k]? = some c ∧ ∀ b ∈ l.take k, b ≠ c := by
  induction l generalizing k with
  | nil => simp [Lib.indexByte] at h
  | cons b l ih =>
    unfold Lib.indexByte at h
    split at h
    · next hb =>
      obtain rfl : k = 0 := by omega
      simp at hb
      subst hb
      simp
    · next hb =>
      split at h
      · omega
      · obtain ⟨j, rfl⟩ : ∃ j, k = j + 1 := ⟨k - 1, by
          have := Lib.indexByte_ge l c
          next hne => simp at hne; omega⟩
        have := ih (k := j) (by omega)
        refine ⟨by simp; omega, by simpa using this.2.1, fun x hx => ?_⟩
        rw [List.take_succ_cons] at hx
        rcases List.mem_cons.1 hx with rfl | hx
        · simpa using hb
        · exact this.2.2 x hx
theorem indexByte_gone {l : List UInt8} {c : UInt8} (h : Lib.indexByte l c = -1) : ∀ b ∈ l, b ≠ c := by
  intro b hb e
  subst e
  obtain ⟨i, hi⟩ := List.mem_iff_getElem?.1 hb
  exact Lib.indexByte_none h i hi
theorem fIndexByteR : layIndexByte_ren.f 137 = 43 := by kernel_rfl
theorem byteAtI (t : List UInt8) (i : Nat) (w : World) : Calls Tryd.prog 44 #[sV t, .int .i64 i] w fun e w' => e = .returned (.int .u8 ((t.getD i 0).toNat : Int)) ∧ w' = w := by
  obtain ⟨s, hs⟩ : ∃ s : ByteArray, (⟨t.toArray⟩ : ByteArray) = s := ⟨_, rfl⟩
  have hsl : s.data.toList = t := by rw [← hs]
  have hsz := size_ofL' hsl
  show Calls Tryd.prog 44 #[.string ⟨t.toArray⟩, _] w _
  rw [hs]
  obtain ⟨n, hn⟩ : ∃ n, t.length = n := ⟨_, rfl⟩
  rw [hn] at hsz
  by_cases h : i < n
  · have hks : i < s.size := by omega
    have hb := byte_atA hsl hks
    obtain ⟨N, hN⟩ : ∃ N, (t.getD i 0).toNat = N := ⟨_, rfl⟩
    have hb2 : ((s[i]'hks).toNat : Int) = (N : Int) := by rw [hb, hN]
    rw [hN]
    have i2 : (i : Int) < (n : Int) := by omega
    have i3 : ¬ (n : Int) ≤ (i : Int) := by omega
    clear hs hsl hb hN hn
    go_enter Tryd.func44, Tryd.ntmps44
    go_wp2_with fail
    go_ret
    exact ⟨rfl, rfl⟩
  · have hz : t.getD i 0 = 0 := by rw [List.getD, List.getElem?_eq_none (by omega)]; rfl
    rw [hz]
    have i3 : (n : Int) ≤ (i : Int) := by omega
    clear hs hsl hn
    go_enter Tryd.func44, Tryd.ntmps44
    go_wp2_with fail
    go_ret
    exact ⟨rfl, rfl⟩

/-- One piece up to the next quote. -/
theorem quoU_piece {r : List UInt8} {k j : Nat} (hj : Lib.indexByte (r.drop k) 34 = j) :
    k + j < r.length ∧ quoU (r.drop k) = if (r.drop (k + j + 1)).head? = some 34 then (quoU (r.drop (k + j + 2))).map (fun p => ((r.drop k).take j ++ 34 :: p.1, p.2 + j + 2)) else some ((r.drop k).take j, j + 1) := by
  obtain ⟨h1, h2, h3⟩ := indexByte_pre hj
  rw [List.length_drop] at h1
  have hs : r.drop k = (r.drop k).take j ++ 34 :: r.drop (k + j + 1) := by
    have hg : (r.drop k)[j]? = some 34 := h2
    have e1 : (r.drop k).drop j = 34 :: r.drop (k + j + 1) := by
      rw [List.drop_drop]
      have hlt : k + j < r.length := by omega
      rw [List.drop_eq_getElem_cons hlt]
      rw [List.getElem?_drop, List.getElem?_eq_getElem hlt] at hg
      rw [Option.some.inj hg]
    calc r.drop k = (r.drop k).take j ++ (r.drop k).drop j := (List.take_append_drop _ _).symm
      _ = _ := by rw [e1]
  refine ⟨by omega, ?_⟩
  have hx : ((r.drop k).take j).length = j := by rw [List.length_take, List.length_drop]; omega
  conv => lhs; rw [hs]
  rw [quoU_pre h3, hx]
  have ht : (r.drop (k + j + 1)).tail = r.drop (k + j + 2) := by rw [List.tail_drop]
  rw [ht]
theorem head_get (r : List UInt8) (i : Nat) : ((r.drop i).head? = some 34) ↔ (r.getD i 0).toNat = 34 := by
  rw [List.head?_drop]
  cases h : r[i]? with
  | none => simp [List.getD, h]
  | some b =>
    simp only [List.getD, h, Option.some.injEq, Option.getD_some]
    constructor
    · intro e; rw [e]; rfl
    · intro e; exact UInt8.toNat_inj.1 e
/-- What unquoted answers. -/
def unqV (r : List UInt8) : Value := match quoU r with
  | none => .tuple #[sV [], .int .i64 0]
  | some (f, n) => .tuple #[sV f, .int .i64 ((n + 1 : Nat) : Int)]
set_option maxRecDepth 100000 in
set_option maxHeartbeats 4000000 in
theorem unquotedI (r : List UInt8) (w : World) (hr : r.length ≤ 30000) :
    Calls Tryd.prog 40 #[sV (34 :: r)] w fun e w' => e = .returned (unqV r) ∧ w' = w := by
  obtain ⟨s, hs⟩ : ∃ s : ByteArray, (⟨(34 :: r).toArray⟩ : ByteArray) = s := ⟨_, rfl⟩
  have hsl : s.data.toList = 34 :: r := by rw [← hs]
  have hsz : s.size = r.length + 1 := by rw [← hs]; rfl
  have HB : Hid (∀ (i : Nat) (W : World), Calls Tryd.prog 44 #[.string s, .int .i64 i] W fun e w' => e = .returned (.int .u8 (((34 :: r).getD i 0).toNat : Int)) ∧ w' = W) := fun i W => by rw [← hs]; exact byteAtI (34 :: r) i W
  have HX : Hid (∀ (i : Nat) (W : World), Calls Tryd.prog 43 #[.string (s.extract i (r.length + 1)), .int .u8 34] W fun e w' => e = .returned (.int .i64 (Lib.indexByte ((34 :: r).drop i) 34)) ∧ w' = W) := fun i W => by
    have q := Any.strings_IndexByte layIndexByte (s.extract i (r.length + 1)) 34 W
    rw [fIndexByteR] at q
    have e : (s.extract i (r.length + 1)).data.toList = (34 :: r).drop i := by
      rw [ByteArray.data_extract]
      simp [hsl]
      exact List.take_of_length_le (by simp)
    rw [e] at q
    exact q
  show Calls Tryd.prog 40 #[.string ⟨(34 :: r).toArray⟩] w _
  rw [hs]
  obtain ⟨n, hn⟩ : ∃ n, r.length = n := ⟨_, rfl⟩
  have HN : Hid (r.length = n) := hn
  rw [hn] at hsz hr HX
  have HS : Hid (s.data.toList = 34 :: r) := hsl
  clear hs hsl hn
  go_enter Tryd.func40, Tryd.ntmps40
  go_wp2_with fail
  refine wp_scope_jumps 0 (fun a' w' => w' = w ∧ ∃ (k : Nat) (out : List UInt8) (u6 u7 u8 u9 u10 u11 u12 u13 u14 u15 u16 u17 u18 u19 u20 u21 u22 u23 u24 u25 u26 u27 u28 u29 u30 u31 u32 : Value), a' = { tmps := #[.string s, undef, .string ⟨#[]⟩, .int .i64 0, sV out, .int .i64 k, u6, u7, u8, u9, u10, u11, u12, u13, u14, u15, u16, u17, u18, u19, u20, u21, u22, u23, u24, u25, u26, u27, u28, u29, u30, u31, u32, undef, undef], defers := [] } ∧ Hid (quoU r = (quoU (r.drop k)).map (fun p => (out ++ p.1, p.2 + k)) ∧ k ≤ n ∧ out.length ≤ k)) (fun a' _ => n + 1 - (intOf (a'.tmps.getD 5 undef)).toNat) rfl ?_ ?_
  · go_wp2_with fail
    go_step3
    have HQ : Hid (quoU r = (quoU (r.drop 0)).map (fun p => (([] : List UInt8) ++ p.1, p.2 + 0)) ∧ 0 ≤ n ∧ ([] : List UInt8).length ≤ 0) := ⟨by simp, by omega, by simp⟩
    obtain ⟨hq, hkn, hol⟩ := HQ.out
    have CX := HX.out 1 w
    have hdr : (34 :: r).drop 1 = r.drop 0 := rfl
    rw [hdr] at CX
    have hge := Lib.indexByte_ge (r.drop 0) 34
    have y1 : (1 : Int) ≤ (n : Int) + 1 := by omega
    have y0 : (0 : Int) ≤ (1 : Int) := by omega
    by_cases hD : Lib.indexByte (r.drop 0) 34 = -1
    · rw [hD] at CX
      have HU : Hid (unqV r = .tuple #[sV [], .int .i64 0]) := by
        show _ = _
        have h0 : quoU r = none := by rw [hq, quoU_none (indexByte_gone hD)]; rfl
        unfold unqV
        rw [h0]
      clear hq hD hge hdr
      go_wp2_with fail
      refine CX.mono ?_
      rintro _ w1 ⟨rfl, rfl⟩
      go_wp2_with fail
      show bodyPost Tryd.prog Tryd.f40 (fun e w2 => e = .returned (unqV r) ∧ w2 = w1) Exit.ret _ _
      exact bodyPost_ret (v := .tuple #[sV [], .int .i64 0]) (by simp [results, Tryd.results40, go_sem]) rfl ⟨by rw [HU.out], rfl⟩
    · obtain ⟨j, hj⟩ : ∃ j : Nat, Lib.indexByte (r.drop 0) 34 = j := ⟨(Lib.indexByte (r.drop 0) 34).toNat, by omega⟩
      rw [hj] at CX
      obtain ⟨p1, p2⟩ := quoU_piece hj
      rw [HN.out] at p1
      obtain ⟨X, hX⟩ : ∃ X, (r.drop 0).take j = X := ⟨_, rfl⟩
      rw [hX] at p2
      have hXl : X.length = j := by rw [← hX, List.length_take, List.length_drop, HN.out]; omega
      obtain ⟨z, hz⟩ : ∃ z : Nat, 1 + j = z := ⟨_, rfl⟩
      have hzi : (1 : Int) + (j : Int) = (z : Int) := by omega
      obtain ⟨q, hq2⟩ : ∃ q : Nat, 0 + j + 2 = q := ⟨_, rfl⟩
      have hqi : (1 : Int) + ((j : Int) + 1) = (q : Int) := by omega
      obtain ⟨o1, ho1⟩ : ∃ o : ByteArray, (⟨(([] : List UInt8) ++ X).toArray⟩ : ByteArray) = o := ⟨_, rfl⟩
      have hcat : ((⟨#[]⟩ : ByteArray) ++ s.extract 1 z : ByteArray) = o1 := by
        rw [← ho1]
        apply ByteArray.ext
        rw [ByteArray.data_append, ByteArray.data_extract]
        apply Array.ext'
        simp [HS.out]
        rw [← hX, ← hz]
        simp [Nat.add_sub_cancel_left]
      have hcs : (⟨#[]⟩ : ByteArray).size + (s.extract 1 z).size ≤ 9223372036854775807 := by
        show 0 + _ ≤ _
        rw [ByteArray.size_extract]
        omega
      have zb : (z : Int) ≤ (n : Int) + 1 := by omega
      have zy : (1 : Int) ≤ (z : Int) := by omega
      have CB := HB.out q w
      have hgq : (34 :: r).getD q 0 = r.getD (0 + j + 1) 0 := by rw [← hq2]; rfl
      rw [hgq] at CB
      have hhd := head_get r (0 + j + 1)
      obtain ⟨N, hN⟩ : ∃ N, (r.getD (0 + j + 1) 0).toNat = N := ⟨_, rfl⟩
      rw [hN] at CB hhd
      by_cases h34 : N = 34
      · have hn1 : ((N : Int) == 34) = true := by simp [h34]
        rw [if_pos (hhd.2 h34)] at p2
        have hkl : 0 + j + 1 < n := by
          have := hhd.2 h34
          rw [List.head?_drop] at this
          have := (List.getElem?_eq_some_iff.1 this).1
          rw [HN.out] at this
          exact this
        obtain ⟨o2, ho2⟩ : ∃ o : ByteArray, (⟨(([] : List UInt8) ++ X ++ [34]).toArray⟩ : ByteArray) = o := ⟨_, rfl⟩
        have hcat2 : (o1 ++ ⟨#[34]⟩ : ByteArray) = o2 := by
          rw [← ho1, ← ho2]
          apply ByteArray.ext
          rw [ByteArray.data_append]
          apply Array.ext'
          simp
        have hcs2 : o1.size + (⟨#[34]⟩ : ByteArray).size ≤ 9223372036854775807 := by
          rw [← ho1]
          show (([] : List UInt8) ++ X).length + 1 ≤ _
          rw [List.length_append]
          omega
        have HQ2 : Hid (quoU r = (quoU (r.drop q)).map (fun p => ((([] : List UInt8) ++ X ++ [34]) ++ p.1, p.2 + q)) ∧ q ≤ n ∧ (([] : List UInt8) ++ X ++ [34]).length ≤ q) := by
          refine ⟨?_, by omega, by simp; omega⟩
          rw [hq, p2, ← hq2, Option.map_map]
          cases quoU (r.drop (0 + j + 2)) with
          | none => rfl
          | some p => simp; omega
        have HO2 : Hid (sV (([] : List UInt8) ++ X ++ [34]) = .string o2) := by show _ = _; rw [← ho2]
        clear hq p2 hgq hhd hN hj hX hD hge hdr ho1 ho2 HQ h34
        go_wp2_with (first | (go_at_call 43; refine CX.mono ?_; rintro _ w1 ⟨rfl, hw⟩; rw [hw]) | (go_at_call 44; refine CB.mono ?_; rintro _ w1 ⟨rfl, hw⟩; rw [hw]))
        go_step3
        exact ⟨rfl, rfl, q, ([] : List UInt8) ++ X ++ [34], _, _, _, _, _, _, _, _, _, _, _, _, _, _, _, _, _, _, _, _, _, _, _, _, _, _, _, by rw [HO2.out], HQ2⟩
      · have hn1 : ((N : Int) == 34) = false := by simp; omega
        rw [if_neg (fun e => h34 (hhd.1 e))] at p2
        have HU : Hid (unqV r = .tuple #[.string o1, .int .i64 (q : Int)]) := by
          show _ = _
          have h0 : quoU r = some (([] : List UInt8) ++ X, j + 1 + 0) := by rw [hq, p2]; rfl
          unfold unqV
          rw [h0, ← ho1, ← hq2]
          simp
          omega
        clear hq p2 hgq hhd hN hj hX hD hge hdr ho1 HQ h34
        go_wp2_with (first | (go_at_call 43; refine CX.mono ?_; rintro _ w1 ⟨rfl, hw⟩; rw [hw]) | (go_at_call 44; refine CB.mono ?_; rintro _ w1 ⟨rfl, hw⟩; rw [hw]))
        show bodyPost Tryd.prog Tryd.f40 (fun e w2 => e = .returned (unqV r) ∧ w2 = w) Exit.ret _ _
        exact bodyPost_ret (v := .tuple #[.string o1, .int .i64 (q : Int)]) (by simp [results, Tryd.results40, go_sem]) rfl ⟨by rw [HU.out], rfl⟩
  · rintro a' w' ⟨rfl, k, out, u6, u7, u8, u9, u10, u11, u12, u13, u14, u15, u16, u17, u18, u19, u20, u21, u22, u23, u24, u25, u26, u27, u28, u29, u30, u31, u32, rfl, HQ⟩
    obtain ⟨hq, hkn, hol⟩ := HQ.out
    obtain ⟨y, hy⟩ : ∃ y : Nat, k + 1 = y := ⟨_, rfl⟩
    have hyi : (k : Int) + 1 = (y : Int) := by omega
    have CX := HX.out y w'
    have hdr : (34 :: r).drop y = r.drop k := by rw [← hy]; rfl
    rw [hdr] at CX
    have hge := Lib.indexByte_ge (r.drop k) 34
    have y1 : (y : Int) ≤ (n : Int) + 1 := by omega
    have y0 : (0 : Int) ≤ (y : Int) := by omega
    by_cases hD : Lib.indexByte (r.drop k) 34 = -1
    · rw [hD] at CX
      have HU : Hid (unqV r = .tuple #[sV [], .int .i64 0]) := by
        show _ = _
        have h0 : quoU r = none := by rw [hq, quoU_none (indexByte_gone hD)]; rfl
        unfold unqV
        rw [h0]
      clear hq hD hge hdr hy
      go_wp2_with fail
      refine CX.mono ?_
      rintro _ w1 ⟨rfl, rfl⟩
      go_wp2_with fail
      show bodyPost Tryd.prog Tryd.f40 (fun e w' => e = .returned (unqV r) ∧ w' = w1) Exit.ret _ _
      exact bodyPost_ret (v := .tuple #[sV [], .int .i64 0]) (by simp [results, Tryd.results40, go_sem]) rfl ⟨by rw [HU.out], rfl⟩
    · obtain ⟨j, hj⟩ : ∃ j : Nat, Lib.indexByte (r.drop k) 34 = j := ⟨(Lib.indexByte (r.drop k) 34).toNat, by omega⟩
      rw [hj] at CX
      obtain ⟨p1, p2⟩ := quoU_piece hj
      rw [HN.out] at p1
      obtain ⟨X, hX⟩ : ∃ X, (r.drop k).take j = X := ⟨_, rfl⟩
      rw [hX] at p2
      have hXl : X.length = j := by rw [← hX, List.length_take, List.length_drop, HN.out]; omega
      obtain ⟨z, hz⟩ : ∃ z : Nat, y + j = z := ⟨_, rfl⟩
      have hzi : (y : Int) + (j : Int) = (z : Int) := by omega
      obtain ⟨q, hq2⟩ : ∃ q : Nat, k + j + 2 = q := ⟨_, rfl⟩
      have hqi : (y : Int) + ((j : Int) + 1) = (q : Int) := by omega
      obtain ⟨o1, ho1⟩ : ∃ o : ByteArray, (⟨(out ++ X).toArray⟩ : ByteArray) = o := ⟨_, rfl⟩
      have hcat : ((⟨out.toArray⟩ : ByteArray) ++ s.extract y z : ByteArray) = o1 := by
        rw [← ho1]
        apply ByteArray.ext
        rw [ByteArray.data_append, ByteArray.data_extract]
        apply Array.ext'
        simp [HS.out]
        rw [← hX, ← hz, ← hy]
        simp [Nat.add_sub_cancel_left]
      have hcs : (⟨out.toArray⟩ : ByteArray).size + (s.extract y z).size ≤ 9223372036854775807 := by
        show out.length + _ ≤ _
        rw [ByteArray.size_extract]
        omega
      have zb : (z : Int) ≤ (n : Int) + 1 := by omega
      have zy : (y : Int) ≤ (z : Int) := by omega
      have CB := HB.out q w'
      have hgq : (34 :: r).getD q 0 = r.getD (k + j + 1) 0 := by rw [← hq2]; rfl
      rw [hgq] at CB
      have hhd := head_get r (k + j + 1)
      obtain ⟨N, hN⟩ : ∃ N, (r.getD (k + j + 1) 0).toNat = N := ⟨_, rfl⟩
      rw [hN] at CB hhd
      by_cases h34 : N = 34
      · have hn1 : ((N : Int) == 34) = true := by simp [h34]
        rw [if_pos (hhd.2 h34)] at p2
        have hkl : k + j + 1 < n := by
          have := hhd.2 h34
          rw [List.head?_drop] at this
          have := (List.getElem?_eq_some_iff.1 this).1
          rw [HN.out] at this
          exact this
        obtain ⟨o2, ho2⟩ : ∃ o : ByteArray, (⟨(out ++ X ++ [34]).toArray⟩ : ByteArray) = o := ⟨_, rfl⟩
        have hcat2 : (o1 ++ ⟨#[34]⟩ : ByteArray) = o2 := by
          rw [← ho1, ← ho2]
          apply ByteArray.ext
          rw [ByteArray.data_append]
          apply Array.ext'
          simp
        have hcs2 : o1.size + (⟨#[34]⟩ : ByteArray).size ≤ 9223372036854775807 := by
          rw [← ho1]
          show (out ++ X).length + 1 ≤ _
          rw [List.length_append]
          omega
        have HQ2 : Hid (quoU r = (quoU (r.drop q)).map (fun p => ((out ++ X ++ [34]) ++ p.1, p.2 + q)) ∧ q ≤ n ∧ (out ++ X ++ [34]).length ≤ q) := by
          refine ⟨?_, by omega, by simp; omega⟩
          rw [hq, p2, ← hq2, Option.map_map]
          cases quoU (r.drop (k + j + 2)) with
          | none => rfl
          | some p => simp; omega
        have HO2 : Hid (sV (out ++ X ++ [34]) = .string o2) := by show _ = _; rw [← ho2]
        clear hq p2 hgq hhd hN hj hX hD hge hdr ho1 ho2 HQ h34
        go_wp2_with (first | (go_at_call 43; refine CX.mono ?_; rintro _ w1 ⟨rfl, hw⟩; rw [hw]) | (go_at_call 44; refine CB.mono ?_; rintro _ w1 ⟨rfl, hw⟩; rw [hw]))
        go_step3
        exact ⟨rfl, ⟨rfl, q, out ++ X ++ [34], _, _, _, _, _, _, _, _, _, _, _, _, _, _, _, _, _, _, _, _, _, _, _, _, _, _, _, by rw [HO2.out], HQ2⟩, by simp [intOf]; omega⟩
      · have hn1 : ((N : Int) == 34) = false := by simp; omega
        rw [if_neg (fun e => h34 (hhd.1 e))] at p2
        have HU : Hid (unqV r = .tuple #[.string o1, .int .i64 (q : Int)]) := by
          show _ = _
          have h0 : quoU r = some (out ++ X, j + 1 + k) := by rw [hq, p2]; rfl
          unfold unqV
          rw [h0, ← ho1, ← hq2]
          simp
          omega
        clear hq p2 hgq hhd hN hj hX hD hge hdr ho1 HQ h34
        go_wp2_with (first | (go_at_call 43; refine CX.mono ?_; rintro _ w1 ⟨rfl, hw⟩; rw [hw]) | (go_at_call 44; refine CB.mono ?_; rintro _ w1 ⟨rfl, hw⟩; rw [hw]))
        show bodyPost Tryd.prog Tryd.f40 (fun e w2 => e = .returned (unqV r) ∧ w2 = w') Exit.ret _ _
        exact bodyPost_ret (v := .tuple #[.string o1, .int .i64 (q : Int)]) (by simp [results, Tryd.results40, go_sem]) rfl ⟨by rw [HU.out], rfl⟩

end Go.Proofs.YtkjbeciiecljgaaDoor
