/-
  What strings.CutPrefix, strings.SplitN and strconv.Atoi give: out of the kit's contracts, laid at this dump.
-/
import Derived.Test.YtmcmohooodpfeaaGreatDoorLibC
import Derived.Lib.AtoiErrMem
namespace Go.Proofs.YtmcmohooodpfeaaGreatDoor
open Go.RowKit

/-- What the library's three functions read of the world. -/
def LibW (w : World) : Prop := (∃ m, w.cell? ⟨5, 0, none⟩ = some (.int .i64 m)) ∧ (∃ tp p, w.var? Tryz.prog "strconv.ErrSyntax" = some #[.iface tp p]) ∧ ∃ tp p, w.var? Tryz.prog "strconv.ErrRange" = some #[.iface tp p]
theorem gSyntax : Tryz.prog.globalNamed "strconv.ErrSyntax" = some 2 := by kernel_rfl
theorem gRange : Tryz.prog.globalNamed "strconv.ErrRange" = some 3 := by kernel_rfl
theorem var_lt {w : World} {n : String} {g : Nat} {cs : Array Value} (hg : Tryz.prog.globalNamed n = some g) (h : w.var? Tryz.prog n = some cs) : g < w.heap.size := by
  unfold World.var? at h
  simp only [hg, Option.bind_some] at h
  by_cases hk : g < w.heap.size
  · exact hk
  · rw [Array.getElem?_eq_none (by omega)] at h
    cases h
theorem LibW.later {w w' : World} (h : LibW w) (x : Ext w w') : LibW w' := by
  obtain ⟨⟨m, a⟩, ⟨t1, p1, b⟩, t2, p2, c⟩ := h
  exact ⟨⟨m, cell_later x a⟩, ⟨t1, p1, var?_below x gSyntax (var_lt gSyntax b) b⟩, t2, p2, var?_below x gRange (var_lt gRange c) c⟩

theorem fCutPrefix : layCutPrefix_ren.f 103 = 58 := by kernel_rfl
theorem fSplitN : laySplitN_ren.f 147 = 59 := by kernel_rfl
theorem fAtoi : layAtoi_ren.f 172 = 60 := by kernel_rfl
theorem gMaxLen : laySplitN_ren.g 1 = 5 := by kernel_rfl
theorem tString : laySplitN_ren.t 9 = 9 := by kernel_rfl

theorem cutC (s : ByteArray) (w : World) :
    Calls Tryz.prog 58 #[.string s, .string ⟨#[45]⟩] w fun e w' => e = .returned (.tuple #[.string ⟨(Lib.trimPrefix s.data.toList [45]).toArray⟩, .bool (Lib.hasPrefix s.data.toList [45])]) ∧ w' = w := by
  have h := Any.strings_CutPrefix layCutPrefix s ⟨#[45]⟩ w
  rw [fCutPrefix] at h
  exact h

theorem splitC (s : ByteArray) (w : World) (hs : s.size ≤ 1048576) (LW : LibW w) :
    Calls Tryz.prog 59 #[.string s, .string ⟨#[45]⟩, .int .i64 4] w fun e w' => ∃ (ps : List ByteArray) (cap : Nat), e = .returned (.slice (some ⟨w.heap.size, 0, none⟩) ps.length cap) ∧ ps.length ≤ cap ∧ cap ≤ 4 ∧ ps.map (·.data.toList) = Lib.splitN s.data.toList [45] 4 ∧
      w' = w.alloc (.cells (Lib.cellsOf ps cap) 9) := by
  obtain ⟨⟨m, hm⟩, _, _⟩ := LW
  have h := Any.strings_SplitN laySplitN (by kernel_rfl) s ⟨#[45]⟩ 4 m w (by omega) (by rw [gMaxLen]; exact hm) (by decide) (by omega) (by omega)
  rw [fSplitN, tString] at h
  refine h.mono fun e w' ⟨he, hw⟩ => ⟨_, min 4 (s.size + 1), he, ?_, by omega, ?_, hw⟩
  · have := Lib.splitB_length_le ⟨#[45]⟩ 0 (min 4 (s.size + 1) - 1) s
    omega
  · rw [Lib.splitB_data]
    unfold Lib.splitN
    rw [Array.length_toList]
    rfl

theorem atoiC (s : ByteArray) (w : World) (hs : s.size ≤ 1048576) (LW : LibW w) :
    Calls Tryz.prog 60 #[.string s] w fun e w' => ∃ v ev, e = .returned (.tuple #[.int .i64 v, ev]) ∧ ((ev = .nilIface ∧ Lib.atoiAll s.data.toList = .ok v) ∨ ((∃ T p, ev = .iface T p) ∧ ∀ u, Lib.atoiAll s.data.toList ≠ .ok u)) ∧ Ext w w' := by
  obtain ⟨_, ⟨t1, p1, b⟩, t2, p2, c⟩ := LW
  cases ha : Lib.atoiAll s.data.toList with
  | ok v =>
    have h := Any.strconv_Atoi_ok layAtoi s (by omega) v ha w
    rw [fAtoi] at h
    refine h.mono fun e w' ⟨he, hw⟩ => ⟨v, .nilIface, he, .inl ⟨rfl, rfl⟩, ?_⟩
    rcases hw with rfl | ⟨t, rfl⟩
    · exact xr _
    · exact Lib.bytesWorld_below _ _ _
  | «syntax» =>
    have h := Any.strconv_Atoi_syntax_var layAtoi s (by omega) ha t1 p1 w b
    rw [fAtoi] at h
    exact h.mono fun e w' ⟨N, he, _, _, hb⟩ => ⟨0, _, he, .inr ⟨⟨_, _, rfl⟩, fun u q => by cases q⟩, hb⟩
  | range =>
    have h := Any.strconv_Atoi_range_var layAtoi s (by omega) ha t2 p2 w c
    rw [fAtoi] at h
    exact h.mono fun e w' ⟨N, he, _, _, hb⟩ => ⟨_, _, he, .inr ⟨⟨_, _, rfl⟩, fun u q => by cases q⟩, hb⟩

end Go.Proofs.YtmcmohooodpfeaaGreatDoor
