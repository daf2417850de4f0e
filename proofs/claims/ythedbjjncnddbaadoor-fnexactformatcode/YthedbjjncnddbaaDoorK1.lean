/-
  Chapter 10: a part taken into a format, by the program.
-/
import Derived.Test.YthedbjjncnddbaaDoorKz
namespace Go.Proofs.YthedbjjncnddbaaDoor
open Go.RowKit

set_option maxRecDepth 8000 in
set_option maxHeartbeats 1000000 in
theorem take1I (F : Nat) (x : BL) (f : KT) (w : World) (h : Vec w F f.cells) (hx : x.length ≤ 1000) : Calls Tryd.prog 30 #[.pointer (some ⟨F, 0, none⟩), .int .i64 1, sV x] w fun e w' => (∃ v, e = .returned v) ∧ Vec w' F (takeP 1 x f).cells ∧ OnlyK F w w' := by
  have C := trimK x w hx
  have HV : Hid (∀ W, Ext w W → Vec (W.setCell ⟨F, 1, none⟩ (sV (Lib.trimS x [34]))) F (takeP 1 x f).cells) := fun W e => (h.later e).put 1 (by simp) _
  have HC : Hid (∀ W, Ext w W → W.cell? ⟨F, 1, none⟩ = some (sV (KT.bf f)) ∧ W.frozen? ⟨F, 1, none⟩ = false) := fun W e => (h.later e) 1 _ rfl
  clear h
  go_enter Tryd.func30, Tryd.ntmps30
  go_wp2_with fail
  refine C.mono ?_
  rintro e w1 ⟨rfl, e1⟩
  obtain ⟨c, g⟩ := HC.out w1 e1
  go_wp2_with fail
  refine bodyPost_end (results_none rfl _ _ _) rfl ?_
  exact ⟨⟨_, rfl⟩, HV.out w1 e1, (OnlyK.of_ext e1).set _⟩
set_option maxRecDepth 8000 in
set_option maxHeartbeats 1000000 in
theorem take9I (F : Nat) (x : BL) (f : KT) (w : World) (h : Vec w F f.cells) (hx : x.length ≤ 1000) : Calls Tryd.prog 30 #[.pointer (some ⟨F, 0, none⟩), .int .i64 9, sV x] w fun e w' => (∃ v, e = .returned v) ∧ Vec w' F (takeP 9 x f).cells ∧ OnlyK F w w' := by
  have C := trimK x w hx
  have HV : Hid (∀ W, Ext w W → Vec (W.setCell ⟨F, 2, none⟩ (sV (Lib.trimS x [34]))) F (takeP 9 x f).cells) := fun W e => (h.later e).put 2 (by simp) _
  have HC : Hid (∀ W, Ext w W → W.cell? ⟨F, 2, none⟩ = some (sV (KT.af f)) ∧ W.frozen? ⟨F, 2, none⟩ = false) := fun W e => (h.later e) 2 _ rfl
  clear h
  go_enter Tryd.func30, Tryd.ntmps30
  go_wp2_with fail
  refine C.mono ?_
  rintro e w1 ⟨rfl, e1⟩
  obtain ⟨c, g⟩ := HC.out w1 e1
  go_wp2_with fail
  refine bodyPost_end (results_none rfl _ _ _) rfl ?_
  exact ⟨⟨_, rfl⟩, HV.out w1 e1, (OnlyK.of_ext e1).set _⟩
set_option maxRecDepth 8000 in
set_option maxHeartbeats 1000000 in
theorem take2I (F : Nat) (x : BL) (f : KT) (w : World) (h : Vec w F f.cells) (_hx : x.length ≤ 1000) : Calls Tryd.prog 30 #[.pointer (some ⟨F, 0, none⟩), .int .i64 2, sV x] w fun e w' => (∃ v, e = .returned v) ∧ Vec w' F (takeP 2 x f).cells ∧ OnlyK F w w' := by
  have HV : Hid (Vec (w.setCell ⟨F, 6, none⟩ (.bool true)) F (takeP 2 x f).cells) := h.put 6 (by simp) _
  obtain ⟨c, g⟩ := h 6 _ rfl
  have z1 : (⟨x.toArray⟩ : ByteArray).size = x.length := rfl
  clear h
  go_enter Tryd.func30, Tryd.ntmps30
  go_wp2_with fail
  refine bodyPost_end (results_none rfl _ _ _) rfl ?_
  exact ⟨⟨_, rfl⟩, HV.out, (OnlyK.refl _ _).set _⟩
set_option maxRecDepth 8000 in
set_option maxHeartbeats 1000000 in
theorem take3I (F : Nat) (x : BL) (f : KT) (w : World) (h : Vec w F f.cells) (_hx : x.length ≤ 1000) : Calls Tryd.prog 30 #[.pointer (some ⟨F, 0, none⟩), .int .i64 3, sV x] w fun e w' => (∃ v, e = .returned v) ∧ Vec w' F (takeP 3 x f).cells ∧ OnlyK F w w' := by
  have HV : Hid (Vec (w.setCell ⟨F, 3, none⟩ (.int .i64 (x.length : Int))) F (takeP 3 x f).cells) := h.put 3 (by simp) _
  obtain ⟨c, g⟩ := h 3 _ rfl
  have z1 : (⟨x.toArray⟩ : ByteArray).size = x.length := rfl
  obtain ⟨n, hn⟩ : ∃ n, x.length = n := ⟨_, rfl⟩
  rw [hn] at HV z1
  clear hn
  clear h
  go_enter Tryd.func30, Tryd.ntmps30
  go_wp2_with fail
  refine bodyPost_end (results_none rfl _ _ _) rfl ?_
  exact ⟨⟨_, rfl⟩, HV.out, (OnlyK.refl _ _).set _⟩
set_option maxRecDepth 8000 in
set_option maxHeartbeats 1000000 in
theorem take5I (F : Nat) (x : BL) (f : KT) (w : World) (h : Vec w F f.cells) (_hx : x.length ≤ 1000) : Calls Tryd.prog 30 #[.pointer (some ⟨F, 0, none⟩), .int .i64 5, sV x] w fun e w' => (∃ v, e = .returned v) ∧ Vec w' F (takeP 5 x f).cells ∧ OnlyK F w w' := by
  have HV : Hid (Vec (w.setCell ⟨F, 4, none⟩ (.int .i64 (x.length : Int))) F (takeP 5 x f).cells) := h.put 4 (by simp) _
  obtain ⟨c, g⟩ := h 4 _ rfl
  have z1 : (⟨x.toArray⟩ : ByteArray).size = x.length := rfl
  obtain ⟨n, hn⟩ : ∃ n, x.length = n := ⟨_, rfl⟩
  rw [hn] at HV z1
  clear hn
  clear h
  go_enter Tryd.func30, Tryd.ntmps30
  go_wp2_with fail
  refine bodyPost_end (results_none rfl _ _ _) rfl ?_
  exact ⟨⟨_, rfl⟩, HV.out, (OnlyK.refl _ _).set _⟩
set_option maxRecDepth 8000 in
set_option maxHeartbeats 1000000 in
theorem take6I (F : Nat) (x : BL) (f : KT) (w : World) (h : Vec w F f.cells) (_hx : x.length ≤ 1000) : Calls Tryd.prog 30 #[.pointer (some ⟨F, 0, none⟩), .int .i64 6, sV x] w fun e w' => (∃ v, e = .returned v) ∧ Vec w' F (takeP 6 x f).cells ∧ OnlyK F w w' := by
  have HV : Hid (Vec (w.setCell ⟨F, 5, none⟩ (.int .i64 (x.length : Int))) F (takeP 6 x f).cells) := h.put 5 (by simp) _
  obtain ⟨c, g⟩ := h 5 _ rfl
  have z1 : (⟨x.toArray⟩ : ByteArray).size = x.length := rfl
  obtain ⟨n, hn⟩ : ∃ n, x.length = n := ⟨_, rfl⟩
  rw [hn] at HV z1
  clear hn
  clear h
  go_enter Tryd.func30, Tryd.ntmps30
  go_wp2_with fail
  refine bodyPost_end (results_none rfl _ _ _) rfl ?_
  exact ⟨⟨_, rfl⟩, HV.out, (OnlyK.refl _ _).set _⟩
set_option maxRecDepth 8000 in
set_option maxHeartbeats 1000000 in
theorem take7I (F : Nat) (x : BL) (f : KT) (w : World) (h : Vec w F f.cells) (_hx : x.length ≤ 1000) : Calls Tryd.prog 30 #[.pointer (some ⟨F, 0, none⟩), .int .i64 7, sV x] w fun e w' => (∃ v, e = .returned v) ∧ Vec w' F (takeP 7 x f).cells ∧ OnlyK F w w' := by
  have HV : Hid (Vec (w.setCell ⟨F, 7, none⟩ (.int .i64 (x.length : Int))) F (takeP 7 x f).cells) := h.put 7 (by simp) _
  obtain ⟨c, g⟩ := h 7 _ rfl
  have z1 : (⟨x.toArray⟩ : ByteArray).size = x.length := rfl
  obtain ⟨n, hn⟩ : ∃ n, x.length = n := ⟨_, rfl⟩
  rw [hn] at HV z1
  clear hn
  clear h
  go_enter Tryd.func30, Tryd.ntmps30
  go_wp2_with fail
  refine bodyPost_end (results_none rfl _ _ _) rfl ?_
  exact ⟨⟨_, rfl⟩, HV.out, (OnlyK.refl _ _).set _⟩
set_option maxRecDepth 8000 in
set_option maxHeartbeats 1000000 in
theorem take8I (F : Nat) (x : BL) (f : KT) (w : World) (h : Vec w F f.cells) (_hx : x.length ≤ 1000) : Calls Tryd.prog 30 #[.pointer (some ⟨F, 0, none⟩), .int .i64 8, sV x] w fun e w' => (∃ v, e = .returned v) ∧ Vec w' F (takeP 8 x f).cells ∧ OnlyK F w w' := by
  have HV : Hid (Vec (w.setCell ⟨F, 8, none⟩ (sV x)) F (takeP 8 x f).cells) := h.put 8 (by simp) _
  obtain ⟨c, g⟩ := h 8 _ rfl
  have z1 : (⟨x.toArray⟩ : ByteArray).size = x.length := rfl
  clear h
  go_enter Tryd.func30, Tryd.ntmps30
  go_wp2_with fail
  refine bodyPost_end (results_none rfl _ _ _) rfl ?_
  exact ⟨⟨_, rfl⟩, HV.out, (OnlyK.refl _ _).set _⟩
set_option maxRecDepth 8000 in
set_option maxHeartbeats 1000000 in
theorem take4I (F : Nat) (x : BL) (f : KT) (w : World) (h : Vec w F f.cells) (_hx : x.length ≤ 1000) : Calls Tryd.prog 30 #[.pointer (some ⟨F, 0, none⟩), .int .i64 4, sV x] w fun e w' => (∃ v, e = .returned v) ∧ Vec w' F (takeP 4 x f).cells ∧ OnlyK F w w' := by
  go_enter Tryd.func30, Tryd.ntmps30
  go_wp2_with fail
  refine bodyPost_end (results_none rfl _ _ _) rfl ?_
  exact ⟨⟨_, rfl⟩, h, OnlyK.refl _ _⟩
theorem takeI (p : Nat) (hp : 1 ≤ p) (hp9 : p ≤ 9) (F : Nat) (x : BL) (f : KT) (w : World) (h : Vec w F f.cells) (hx : x.length ≤ 1000) : Calls Tryd.prog 30 #[.pointer (some ⟨F, 0, none⟩), .int .i64 (p : Int), sV x] w fun e w' => (∃ v, e = .returned v) ∧ Vec w' F (takeP p x f).cells ∧ OnlyK F w w' := by
  match p, hp, hp9 with
  | 1, _, _ => exact take1I F x f w h hx
  | 2, _, _ => exact take2I F x f w h hx
  | 3, _, _ => exact take3I F x f w h hx
  | 4, _, _ => exact take4I F x f w h hx
  | 5, _, _ => exact take5I F x f w h hx
  | 6, _, _ => exact take6I F x f w h hx
  | 7, _, _ => exact take7I F x f w h hx
  | 8, _, _ => exact take8I F x f w h hx
  | 9, _, _ => exact take9I F x f w h hx

end Go.Proofs.YthedbjjncnddbaaDoor
