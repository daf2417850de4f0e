/-
  No call undoes a draw.
-/
import Derived.Test.YtgpfddneablcpaaGreatDoorMg30
namespace Go.Proofs.YtgpfddneablcpaaGreatDoor
open Go

def upM (w : World) : Move → Prop
 | .goroutine m _ => w.drawn ≤ m.world.drawn
 | .machine s _ => upS w s
theorem upM_ite {w : World} {c : Prop} [Decidable c] {a b : Move} (ha : upM w a) (hb : upM w b) : upM w (if c then a else b) := by
 split
 ·
  exact ha
 ·
  exact hb
theorem askOn_up {w0 : World} (p : Program) (m : Machine) (h : w0.drawn ≤ m.world.drawn) : upM w0 (askOn p m) := by
 unfold askOn
 extract_lets mono rs ds pick
 have hpick : ∀ m : Machine, w0.drawn ≤ m.world.drawn → upM w0 (pick m) := by
  intro m h
  show upM w0 (match (choose (.sched rs.length)).run p m.world with
   | .halt _ w => .machine (.ended (.stuck "sched" "") w)
   | .ok k world =>
    if rs.length ≤ 1 then .goroutine { m with world } (rs.getD k 0) else
    match (choose (.extern "sched.slice" 65536)).run p world with
    | .halt _ w => .machine (.ended (.stuck "sched.slice" "") w)
    | .ok n world => .goroutine { m with world, rest := { m.rest with slice := if n = 0 then none else some (rs.getD k 0, n) } } (rs.getD k 0))
  split
  ·
   exact trivial
  ·
   rename_i heq
   have h1 := Nat.le_trans h (run_ok_up heq)
   refine upM_ite h1 ?_
   split
   ·
    exact trivial
   ·
    rename_i heq2
    have h2 := Nat.le_trans h1 (run_ok_up heq2)
    exact h2
 clear_value pick rs ds mono
 split
 ·
  exact trivial
 ·
  rename_i heq
  have h1 := Nat.le_trans h (run_ok_up heq)
  extract_lets m2
  have hm2 : w0.drawn ≤ m2.world.drawn := h1
  clear_value m2
  refine upM_ite (serve_up _ _ _ hm2) ?_
  split
  ·
   split
   ·
    exact hm2
   ·
    refine upM_ite hm2 ?_
    split
    ·
     exact trivial
    ·
     exact trivial
  ·
   split
   ·
    exact hpick _ hm2
   ·
    split
    ·
     exact trivial
    ·
     rename_i heq2
     have h2 := Nat.le_trans h1 (run_ok_up heq2)
     exact hpick _ h2
    ·
     rename_i heq2
     have h2 := Nat.le_trans h1 (run_ok_up heq2)
     exact h2
    ·
     rename_i heq2
     have h2 := Nat.le_trans h1 (run_ok_up heq2)
     exact hpick _ h2
theorem askM_up {w0 : World} (p : Program) (m : Machine) (h : w0.drawn ≤ m.world.drawn) : upM w0 (Go.ask p m) := by
 unfold Go.ask
 split
 ·
  split
  ·
   exact trivial
  ·
   rename_i heq
   have h1 := Nat.le_trans h (run_ok_up heq)
   have h2 := look_up h1 p m.gs m.rest
   split
   ·
    rename_i heq2
    rw [heq2] at h2
    exact askOn_up _ _ h2
   ·
    exact h2
  ·
   rename_i heq
   have h1 := Nat.le_trans h (run_ok_up heq)
   exact askOn_up _ _ h1
 ·
  exact askOn_up _ _ h
theorem move_up {w0 : World} (p : Program) (m : Machine) (h : w0.drawn ≤ m.world.drawn) : upM w0 (move p m) := by
 unfold move
 split
 ·
  exact upM_ite h trivial
 ·
  split
  ·
   exact upM_ite h (askM_up _ _ h)
  ·
   exact askM_up _ _ h
theorem step_up {p : Program} {m m' : Machine} (h : step p m = .next m') : m.world.drawn ≤ m'.world.drawn := by
 have hm := move_up p m (Nat.le_refl m.world.drawn)
 unfold step at h
 have key : upT m.world (stepT p m) := by
  unfold stepT
  split
  ·
   rename_i heq
   rw [heq] at hm
   exact runM_up _ _ _ _ hm
  ·
   rename_i heq
   rw [heq] at hm
   exact hm
 unfold upT at key
 rw [h] at key
 exact key
theorem runN_up {p : Program} : ∀ (n : Nat) {m m' : Machine}, runN p n m = .next m' → m.world.drawn ≤ m'.world.drawn
 | 0, m, m', h => by
  unfold runN at h
  cases h
  exact Nat.le_refl _
 | n + 1, m, m', h => by
  unfold runN at h
  split at h
  ·
   rename_i heq
   exact Nat.le_trans (step_up heq) (runN_up n h)
  ·
   rename_i e
   exact absurd h (e m')
/-- What was drawn stays drawn. -/
theorem Calls.drawn {P : Program} {f : FuncId} {args : Array Value} {w : World} {v : World → Value} {R : World → Prop} (h : Calls P f args w fun e w' => e = .returned (v w') ∧ R w') :
  Calls P f args w fun e w' => e = .returned (v w') ∧ R w' ∧ w.drawn ≤ w'.drawn := by
 intro cs
 obtain ⟨e, w', fr, ⟨rfl, hR⟩, hc, hf⟩ := h cs
 refine ⟨_, w', fr, ⟨rfl, hR, ?_⟩, hc, hf⟩
 obtain ⟨n, hn⟩ : Steps P _ _ := hc
 exact runN_up n hn

end Go.Proofs.YtgpfddneablcpaaGreatDoor

