/-
  Several texts in one: Up, Up2, Up3, Up4, Up5.
-/
import Derived.Calls
import Derived.Laws.World
namespace Go.Proofs.YtbomplppgobkdaaGreatDoor
open Go

def resW {α : Type} : Result α → World
  | .ok _ w => w
  | .halt _ w => w
theorem ask_up {α : Type} (x : Ask α) : ∀ (w : World), w.drawn ≤ (w.ask x).2.drawn := by
  induction x with
  | done a => intro w; exact Nat.le_refl _
  | ask what range k ih =>
    intro w
    unfold World.ask
    simp only
    split
    · exact ih 0 w
    · exact Nat.le_trans (Nat.le_succ _) (ih _ { w with drawn := w.drawn + 1 })
theorem sys_up (w : World) (c : Sys) : w.drawn ≤ (w.sys c).2.drawn := by
  have h := ask_up (Kernel.perform c w.os) w
  unfold World.sys
  split
  · exact Nat.le_refl _
  · rename_i heq
    rw [heq] at h
    exact h
theorem viewStore_up {p : Program} {w w' : World} {a : Addr} {u : TypeId} {k : Addr} {v : Value} {at_ : Bool} {l : List Addr} (h : w.viewStore p a u k v at_ = .ok (w', l)) : w'.drawn = w.drawn := by
  unfold World.viewStore at h
  simp only [bind, Except.bind, pure, Except.pure] at h
  repeat' (split at h)
  all_goals (try (cases h; done))
  all_goals (try (cases h; rfl))
theorem farStore_up {p : Program} {w w' : World} {a : Addr} {v : Value} {at_ : Bool} {l : List Addr} (h : w.farStore p a v at_ = .ok (w', l)) : w'.drawn = w.drawn := by
  unfold World.farStore at h
  split at h
  · split at h
    · rename_i heq
      cases h
      exact viewStore_up heq
    · cases h
  · cases h
theorem freeze_up (w : World) (a : Addr) (n : Nat) : (w.freeze a n).drawn = w.drawn := by
  unfold World.freeze
  split <;> rfl
theorem run_up {α : Type} (p : Program) (s : Sem α) : ∀ (w : World), w.drawn ≤ (resW (s.run p w)).drawn := by
  induction s with
  | pure a => intro w; exact Nat.le_refl _
  | load m a k ih =>
    intro w
    unfold Sem.run
    split
    · exact ih _ _
    · split
      · exact ih _ _
      · exact Nat.le_refl _
  | store m a v k ih =>
    intro w
    have key : (∃ c, v = .agg c) ∨ (∃ c, v = .tuple c) ∨ (Sem.store m a v k).run p w = (match w.cell? a with
      | some _ => if w.frozen? a then .halt (.unsupported (.unsafePointer "a write to bytes that a string shares")) w else k.run p (w.setCell a v)
      | none => match w.farStore p a v (m == .atomic) with
        | .ok (w, _) => k.run p w
        | .error h => .halt h w) := by
      cases v <;> first | exact Or.inl ⟨_, rfl⟩ | exact Or.inr (Or.inl ⟨_, rfl⟩) | exact Or.inr (Or.inr rfl)
    rcases key with ⟨c, rfl⟩ | ⟨c, rfl⟩ | key
    · exact Nat.le_refl _
    · exact Nat.le_refl _
    · rw [key]
      split
      · split
        · exact Nat.le_refl _
        · exact ih (w.setCell a v)
      · split
        · rename_i heq
          have := farStore_up heq
          rw [← this]
          exact ih _
        · exact Nat.le_refl _
  | new o k ih => intro w; unfold Sem.run; exact ih _ { w with heap := w.heap.push o }
  | shape r k ih => intro w; unfold Sem.run; exact ih _ w
  | freeze a n k ih => intro w; unfold Sem.run; rw [← freeze_up w a n]; exact ih _
  | frozen a k ih => intro w; unfold Sem.run; exact ih _ w
  | getObj r k ih =>
    intro w
    unfold Sem.run
    split
    · exact Nat.le_refl _
    · exact ih _ _
    · exact Nat.le_refl _
  | setObj r o k ih =>
    intro w
    unfold Sem.run
    split
    · exact Nat.le_refl _
    · exact ih { w with heap := w.heap.setIfInBounds r o }
    · exact Nat.le_refl _
  | choose q k ih =>
    intro w
    unfold Sem.run
    split
    · exact ih _ _
    · exact Nat.le_trans (Nat.le_succ _) (ih _ { w with drawn := w.drawn + 1 })
  | sys c k ih => intro w; unfold Sem.run; exact Nat.le_trans (sys_up w c) (ih _ _)
  | program k ih => intro w; unfold Sem.run; exact ih _ w
  | mark m k ih => intro w; unfold Sem.run; exact ih w
  | halt h => intro w; exact Nat.le_refl _
theorem runT_up {α : Type} (p : Program) (s : Sem α) : ∀ (w : World) (es : Array Event), w.drawn ≤ (resW (s.runT p w es).1).drawn := by
  induction s with
  | pure a => intro w es; exact Nat.le_refl _
  | load m a k ih =>
    intro w es
    unfold Sem.runT
    split
    · exact ih _ _ _
    · split
      · exact ih _ _ _
      · exact Nat.le_refl _
  | store m a v k ih =>
    intro w es
    have key : (∃ c, v = .agg c) ∨ (∃ c, v = .tuple c) ∨ (Sem.store m a v k).runT p w es = (match w.cell? a with
      | some _ =>
        if w.frozen? a then (.halt (.unsupported (.unsafePointer "a write to bytes that a string shares")) w, es)
        else k.runT p (w.setCell a v) (es.push ⟨.cell a, true, m == .atomic⟩)
      | none => match w.farStore p a v (m == .atomic) with
        | .ok (w, touched) => k.runT p w (es ++ touched.toArray.map (⟨.cell ·, true, m == .atomic⟩))
        | .error h => (.halt h w, es)) := by
      cases v <;> first | exact Or.inl ⟨_, rfl⟩ | exact Or.inr (Or.inl ⟨_, rfl⟩) | exact Or.inr (Or.inr rfl)
    rcases key with ⟨c, rfl⟩ | ⟨c, rfl⟩ | key
    · exact Nat.le_refl _
    · exact Nat.le_refl _
    · rw [key]
      split
      · split
        · exact Nat.le_refl _
        · exact ih (w.setCell a v) _
      · split
        · rename_i heq
          have := farStore_up heq
          rw [← this]
          exact ih _ _
        · exact Nat.le_refl _
  | new o k ih => intro w es; unfold Sem.runT; exact ih _ { w with heap := w.heap.push o } _
  | shape r k ih => intro w es; unfold Sem.runT; exact ih _ w _
  | freeze a n k ih => intro w es; unfold Sem.runT; rw [← freeze_up w a n]; exact ih _ _
  | frozen a k ih => intro w es; unfold Sem.runT; exact ih _ w _
  | getObj r k ih =>
    intro w es
    unfold Sem.runT
    split
    · exact Nat.le_refl _
    · exact ih _ _ _
    · exact Nat.le_refl _
  | setObj r o k ih =>
    intro w es
    unfold Sem.runT
    split
    · exact Nat.le_refl _
    · exact ih { w with heap := w.heap.setIfInBounds r o } _
    · exact Nat.le_refl _
  | choose q k ih =>
    intro w es
    unfold Sem.runT
    split
    · exact ih _ _ _
    · exact Nat.le_trans (Nat.le_succ _) (ih _ { w with drawn := w.drawn + 1 } _)
  | sys c k ih => intro w es; unfold Sem.runT; exact Nat.le_trans (sys_up w c) (ih _ _ _)
  | program k ih => intro w es; unfold Sem.runT; exact ih _ w _
  | mark m k ih => intro w es; unfold Sem.runT; exact ih w _
  | halt h => intro w es; exact Nat.le_refl _

end Go.Proofs.YtbomplppgobkdaaGreatDoor

namespace Go.Proofs.YtbomplppgobkdaaGreatDoor
open Go

def upG (w : World) : GStep → Prop
  | .go _ w' _ => w.drawn ≤ w'.drawn
  | .comm _ _ _ _ w' _ => w.drawn ≤ w'.drawn
  | .spawn _ _ w' _ => w.drawn ≤ w'.drawn
  | .count _ w' _ => w.drawn ≤ w'.drawn
  | .timer _ _ w' _ => w.drawn ≤ w'.drawn
  | .alone _ _ w' _ => w.drawn ≤ w'.drawn
  | .newcoro _ _ _ w' _ => w.drawn ≤ w'.drawn
  | .coroswitch _ _ _ w' _ => w.drawn ≤ w'.drawn
  | .collect _ w' _ => w.drawn ≤ w'.drawn
  | .watch _ w' _ => w.drawn ≤ w'.drawn
  | .ended _ _ _ => True
theorem upG_after {w : World} {es : Array Event} {s : GStep} (h : upG w s) : upG w (GStep.after es s) := by
  cases s <;> exact h
theorem upG_ite {w : World} {c : Prop} [Decidable c] {a b : GStep} (ha : upG w a) (hb : upG w b) : upG w (if c then a else b) := by
  split
  · exact ha
  · exact hb
theorem run_ok_up {α : Type} {p : Program} {s : Sem α} {w w' : World} {a : α} (h : s.run p w = .ok a w') : w.drawn ≤ w'.drawn := by
  have := run_up p s w
  rw [h] at this
  exact this
theorem run_halt_up {α : Type} {p : Program} {s : Sem α} {w w' : World} {a : Halt} (h : s.run p w = .halt a w') : w.drawn ≤ w'.drawn := by
  have := run_up p s w
  rw [h] at this
  exact this
theorem runT_ok_up {α : Type} {p : Program} {s : Sem α} {w w' : World} {a : α} {es es' : Array Event} (h : s.runT p w es = (.ok a w', es')) : w.drawn ≤ w'.drawn := by
  have := runT_up p s w es
  rw [h] at this
  exact this
theorem runT_halt_up {α : Type} {p : Program} {s : Sem α} {w w' : World} {a : Halt} {es es' : Array Event} (h : s.runT p w es = (.halt a w', es')) : w.drawn ≤ w'.drawn := by
  have := runT_up p s w es
  rw [h] at this
  exact this
theorem dieOf_up {w0 w : World} (h : w0.drawn ≤ w.drawn) (fr : Frame) (a : List ByteArray) (m : String) (b : Bool) : upG w0 (dieOf fr a m b w) := h
theorem endThrow_up {w0 w : World} (h : w0.drawn ≤ w.drawn) (fr : Frame) (m : String) : upG w0 (endThrow fr m w) := h
theorem endPrinting_up {w0 w : World} (h : w0.drawn ≤ w.drawn) (p : Program) (fr : Frame) (v : Value) : upG w0 (endPrinting p fr v w) := by
  unfold endPrinting
  dsimp only
  split
  · exact endThrow_up h _ _
  · exact trivial
theorem endFatal_up {w0 w : World} (h : w0.drawn ≤ w.drawn) (p : Program) (fr : Frame) (cs : List Frame) (d : Option Dying) (m : String) : upG w0 (endFatal p fr cs d m w) := by
  unfold endFatal
  dsimp only
  split
  · rename_i heq
    exact dieOf_up (Nat.le_trans h (run_ok_up heq)) _ _ _ _
  · exact trivial
  · exact trivial
theorem endWith_up (w0 w : World) (fd : Nat) (t : ByteArray) (o : Outcome) : upG w0 (endWith w fd t o) := by
  unfold endWith
  dsimp only
  repeat' split
  all_goals exact trivial
theorem doReturn_up {w0 w : World} (h : w0.drawn ≤ w.drawn) (p : Program) (main : Bool) (fr : Frame) (cs : List Frame) (d : Option Dying) (v : Value) : upG w0 (doReturn p main fr cs d v w) := by
  unfold doReturn
  repeat' split
  all_goals first | exact h | exact trivial
theorem callDeferred_up {w0 w : World} (h : w0.drawn ≤ w.drawn) (p : Program) (fr : Frame) (cs : List Frame) (dy : Option Dying) (d : Deferred) : upG w0 (callDeferred p fr cs dy d w) := by
  unfold callDeferred
  refine upG_ite trivial ?_
  · have hu := Nat.le_trans h (runT_up p (invoke d.target d.args) w #[])
    generalize (invoke d.target d.args).runT p w #[] = x at hu ⊢
    obtain ⟨r, es⟩ := x
    dsimp only at hu ⊢
    refine upG_after ?_
    split
    all_goals first | exact hu | exact trivial | exact endFatal_up hu _ _ _ _ _ | exact endThrow_up hu _ _ | (split <;> exact hu)
theorem unwind_up {w0 w : World} (h : w0.drawn ≤ w.drawn) (p : Program) (main : Bool) (fr : Frame) (cs : List Frame) (dy : Option Dying) : upG w0 (unwind p main fr cs dy w) := by
  unfold unwind
  split
  · rename_i block args ds heq
    have hu := Nat.le_trans h (runT_up p (Instr.takeDeferred block) w #[])
    generalize (Instr.takeDeferred block).runT p w #[] = x at hu ⊢
    obtain ⟨r, es⟩ := x
    dsimp only at hu ⊢
    refine upG_after ?_
    cases r
    · exact hu
    · exact trivial
  · exact callDeferred_up h _ _ _ _ _
  · split
    · exact trivial
    · split
      · exact trivial
      · split
        · exact h
        · split
          · split
            · exact h
            · split
              · rename_i heq
                exact Nat.le_trans h (run_ok_up heq)
              · exact trivial
              · exact trivial
          · split
            · exact endPrinting_up h _ _ _
            · exact trivial
    · split
      · exact doReturn_up h _ _ _ _ _ _
      · rename_i fn _
        have hu := Nat.le_trans h (runT_up p (results fn fr.tmps) w #[])
        generalize (results fn fr.tmps).runT p w #[] = x at hu ⊢
        obtain ⟨r, es⟩ := x
        dsimp only at hu ⊢
        refine upG_after ?_
        cases r
        · exact doReturn_up hu _ _ _ _ _ _
        · split
          · rename_i e; cases e
          · exact trivial
          · exact trivial
theorem writeOn_up {w0 w : World} (h : w0.drawn ≤ w.drawn) (p : Program) (fr : Frame) (d : Dying) (f : Fatal) : upG w0 (writeOn p fr d f w) := by
  unfold writeOn
  dsimp only
  split
  · exact trivial
  · split
    · rename_i heq
      exact Nat.le_trans h (runT_ok_up heq)
    · rename_i heq
      exact Nat.le_trans h (runT_halt_up heq)
    · exact trivial
    · exact trivial
theorem die_up {w0 w : World} (h : w0.drawn ≤ w.drawn) (p : Program) (fr : Frame) (d : Dying) : upG w0 (die p fr d w) := by
  unfold die
  split
  · exact writeOn_up h _ _ _ _
  · split
    · split
      · exact h
      · exact endWith_up _ _ _ _ _
    · dsimp only
      split
      · exact h
      · split
        · rename_i heq
          exact Nat.le_trans h (run_ok_up heq)
        · exact trivial
      · rename_i t recv name _
        have hu := Nat.le_trans h (runT_up p (invoke (.fn (.method name) #[]) #[.iface t recv]) w #[])
        generalize (invoke (.fn (.method name) #[]) #[.iface t recv]).runT p w #[] = x at hu ⊢
        obtain ⟨r, es⟩ := x
        dsimp only at hu ⊢
        refine upG_after ?_
        split
        all_goals first | exact hu | exact trivial | exact endPrinting_up hu _ _ _
      · exact trivial
theorem early_up {w0 w : World} (h : w0.drawn ≤ w.drawn) (p : Program) (fr : Frame) (cs : List Frame) (dy : Option Dying) (g : Nat) : upG w0 (early p fr cs dy g w) := by
  have N : ∀ w : World, w0.drawn ≤ w.drawn → upG w0 (match w.heap[g]? with
    | some (.pending c elem) => .go { frame := fr, callers := cs, status := .running, dying := dy } { w with heap := w.heap.setIfInBounds g (.cells c elem) }
    | _ => .ended (.stuck "early: the variable does not wait" (fr.pos p)) w : GStep) := by
    intro w h
    split
    · exact h
    · exact trivial
  unfold early
  dsimp only
  split
  · exact N w h
  · split
    · exact trivial
    · split
      · exact N w h
      · split
        · exact N w h
        · split
          · exact trivial
          · exact h
          · exact trivial
          · exact N w h
          · split
            · exact h
            · split
              · exact N w h
              · split
                · rename_i heq
                  exact N _ (Nat.le_trans h (run_ok_up heq))
                · rename_i heq
                  exact Nat.le_trans h (run_ok_up heq)
                · exact trivial

end Go.Proofs.YtbomplppgobkdaaGreatDoor

namespace Go.Proofs.YtbomplppgobkdaaGreatDoor
open Go

theorem apply_up {w0 w : World} (h : w0.drawn ≤ w.drawn) (p : Program) (listen : Bool) (fr : Frame) (cs : List Frame) (dy : Option Dying) (s : Sem Next) : upG w0 (stepG.apply p listen fr cs dy s w) := by
  unfold stepG.apply
  have hu : w0.drawn ≤ (resW (if listen then s.runT p w #[] else (s.run p w, #[])).1).drawn := by
    split
    · exact Nat.le_trans h (runT_up p s w #[])
    · exact Nat.le_trans h (run_up p s w)
  generalize (if listen then s.runT p w #[] else (s.run p w, #[]) : Result Next × Array Event) = x at hu ⊢
  obtain ⟨r, es⟩ := x
  dsimp only at hu ⊢
  refine upG_after ?_
  split
  all_goals first | exact hu | exact trivial | exact endFatal_up hu _ _ _ _ _ | exact endThrow_up hu _ _ | exact early_up hu _ _ _ _ _ | exact upG_ite (endThrow_up hu _ _) hu | (split <;> exact hu)
theorem oper_up {w0 w : World} (h : w0.drawn ≤ w.drawn) (p : Program) (listen : Bool) (fr : Frame) (cs : List Frame) (dy : Option Dying) : upG w0 (stepG.oper p listen fr cs dy w) := by
  unfold stepG.oper
  split
  · exact trivial
  · split
    · exact apply_up h _ _ _ _ _ _
    · exact apply_up h _ _ _ _ _ _
theorem exec_up {w0 w : World} (h : w0.drawn ≤ w.drawn) (p : Program) (main listen : Bool) (fr : Frame) (cs : List Frame) (dy : Option Dying) : upG w0 (stepG.exec p main listen fr cs dy w) := by
  unfold stepG.exec
  extract_lets go to lost leave
  have hgo : ∀ fr w, w0.drawn ≤ w.drawn → upG w0 (go fr w) := fun _ _ h => h
  have hto : ∀ t, upG w0 (to t) := fun _ => h
  have hlost : ∀ s, upG w0 (lost s) := fun _ => trivial
  have hleave : ∀ j, upG w0 (leave j) := by
    intro j
    show upG w0 (match fr.roundOf with
      | none => if j matches none | some .ret then go { fr with mode := .returning } w else lost "exit, goto: no such block or label"
      | some l =>
        let (r, es) := (Instr.endRound l j).runT p w #[]
        GStep.after (seen p fr.fn es) <| match r with
        | .ok v w => doReturn p main fr cs dy v w
        | .halt _ w => .ended (.stuck "range over a function: no such loop" (fr.pos p)) w)
    split
    · exact upG_ite (hgo _ _ h) (hlost _)
    · rename_i l _
      have hu := Nat.le_trans h (runT_up p (Instr.endRound l j) w #[])
      generalize (Instr.endRound l j).runT p w #[] = x at hu ⊢
      obtain ⟨r, es⟩ := x
      dsimp only at hu ⊢
      refine upG_after ?_
      split
      · exact doReturn_up hu _ _ _ _ _ _
      · exact trivial
  clear_value go to lost leave
  split
  · exact hleave _
  · exact hleave _
  · exact hto _
  · exact hto _
  · exact hto _
  · exact hto _
  · exact hto _
  · split
    · exact hto _
    · exact hlost _
  · exact hto _
  · exact hto _
  · exact hto _
  · exact hto _
  · rename_i id k _
    cases exitTo id k
    · exact hleave _
    · exact hto _
  · rename_i l k _
    cases gotoIn l k
    · exact hleave _
    · exact hto _
  · rename_i f params assign body k _
    have hu := Nat.le_trans h (runT_up p (Instr.enterLoop fr.fn fr.tmps params assign body fr.roundOf) w #[])
    generalize (Instr.enterLoop fr.fn fr.tmps params assign body fr.roundOf).runT p w #[] = x at hu ⊢
    obtain ⟨r, es⟩ := x
    dsimp only at hu ⊢
    refine upG_after ?_
    split
    · exact apply_up hu _ _ _ _ _ _
    · exact trivial
  · exact trivial
  · exact apply_up h _ _ _ _ _ _
  · rename_i l k _
    have hu := Nat.le_trans h (runT_up p (Instr.endLoop l) w #[])
    generalize (Instr.endLoop l).runT p w #[] = x at hu ⊢
    obtain ⟨r, es⟩ := x
    dsimp only at hu ⊢
    refine upG_after ?_
    split
    · exact hgo _ _ hu
    · exact hgo _ _ hu
    · exact trivial
  · exact trivial
  · exact apply_up h _ _ _ _ _ _
  · rename_i row args k _
    cases Extern.next row
    · exact hlost _
    · exact apply_up h _ _ _ _ _ _
  · refine upG_ite (hto _) ?_
    split
    · rename_i heq
      exact hgo _ _ (Nat.le_trans h (run_ok_up heq))
    · exact trivial
  · exact hto _
  · exact upG_ite (oper_up h _ _ _ _ _) (hgo _ _ h)
theorem stepG_up (p : Program) (main : Bool) (g : Goroutine) (w : World) (listen : Bool) : upG w (stepG p main g w listen) := by
  unfold stepG
  dsimp only
  split
  · exact die_up (Nat.le_refl _) _ _ _
  · exact exec_up (Nat.le_refl _) _ _ _ _ _ _
  · exact unwind_up (Nat.le_refl _) _ _ _ _ _

end Go.Proofs.YtbomplppgobkdaaGreatDoor

namespace Go.Proofs.YtbomplppgobkdaaGreatDoor
open Go

def upS (w : World) : Stepped → Prop
  | .next m => w.drawn ≤ m.world.drawn
  | .ended _ _ => True
theorem upS_ite {w : World} {c : Prop} [Decidable c] {a b : Stepped} (ha : upS w a) (hb : upS w b) : upS w (if c then a else b) := by
  split
  · exact ha
  · exact hb
def upT (w : World) (x : Stepped × Array MemOp) : Prop := upS w x.1
theorem upT_ite {w : World} {c : Prop} [Decidable c] {a b : Stepped × Array MemOp} (ha : upT w a) (hb : upT w b) : upT w (if c then a else b) := by
  split
  · exact ha
  · exact hb
theorem waitingAt_up {rest : Rest} {cases : Array CommCase} {w w' : World} (h : waitingAt rest cases w = some w') : w'.drawn = w.drawn := by
  unfold waitingAt at h
  split at h
  · split at h
    · cases h; rfl
    · cases h
  · cases h; rfl
theorem communicate_up {w0 w : World} (h : w0.drawn ≤ w.drawn) (p : Program) (rest : Rest) (gs : Array Goroutine) (i : Nat) (g : Goroutine) (cases : Array CommCase) (blocking : Bool) (shape : CommShape) : upT w0 (communicate p rest gs i g cases blocking shape w) := by
  unfold communicate
  extract_lets put illMade me other ready pick
  have hput : ∀ g gs w ops, w0.drawn ≤ w.drawn → upT w0 (put g gs w ops) := fun _ _ _ _ h => h
  clear_value put me other
  refine upT_ite trivial ?_
  refine upT_ite ?_ ?_
  · refine upT_ite ?_ (hput _ _ _ _ h)
    split
    · rename_i heq
      show w0.drawn ≤ _
      dsimp only
      rw [waitingAt_up heq]
      exact h
    · exact trivial
  · split
    · exact trivial
    · rename_i heq
      have h1 := Nat.le_trans h (run_ok_up heq)
      dsimp only
      split
      · split
        · rename_i heq2
          exact hput _ _ _ _ (Nat.le_trans h1 (run_halt_up heq2))
        · exact trivial
      · exact hput _ _ _ _ h1
      · exact hput _ _ _ _ h1
      · split
        · exact hput _ _ _ _ h1
        · split
          · rename_i heq2
            have h2 := Nat.le_trans h1 (run_ok_up heq2)
            exact hput _ _ _ _ h2
          · exact trivial
      · exact hput _ _ _ _ h1
      · exact hput _ _ _ _ h1
      · exact trivial
theorem look_up {w0 w : World} (h : w0.drawn ≤ w.drawn) (p : Program) (gs : Array Goroutine) (rest : Rest) : upS w0 (look p gs rest w) := by
  unfold look
  split
  · dsimp only
    refine upS_ite trivial ?_
    split
    · exact trivial
    · split
      · rename_i heq
        have h2 := Nat.le_trans h (run_ok_up heq)
        exact h2
      · exact trivial
      · exact trivial
  · exact trivial
theorem retime_up (m : Machine) (k : Nat) (t : Timer) (a b : Nat) : (retime m k t a b).2.world.drawn = m.world.drawn := by
  unfold retime
  cases t.chan with
  | none => rfl
  | some c =>
    show ((drain m.world c).2).drawn = _
    unfold drain
    split <;> rfl
theorem timerOp_up {m m' : Machine} {op : TimerOp} {v : Value} (h : timerOp m op = .ok (v, m')) : m'.world.drawn = m.world.drawn := by
  unfold timerOp at h
  split at h
  · split at h
    · cases h; rfl
    · split at h
      · split at h
        · cases h
        · cases h; rfl
      · cases h
  · unfold timerOp.named at h
    split at h
    · cases h; exact retime_up _ _ _ _ _
    · cases h
  · split at h
    · rename_i m1 heq
      have e1 : m1.world.drawn = m.world.drawn := by
        unfold timerOp.opened at heq
        split at heq
        · split at heq
          · cases heq; rfl
          · cases heq
        · cases heq; rfl
      unfold timerOp.named at h
      split at h
      · cases h; exact (retime_up m1 _ _ _ _).trans e1
      · cases h
    · cases h
  · cases h; rfl
theorem serve_up {w0 : World} (p : Program) (m : Machine) (k : Nat) (h : w0.drawn ≤ m.world.drawn) : upS w0 (serve p m k) := by
  unfold serve
  split
  · exact trivial
  · exact h
  · dsimp only
    split
    · exact trivial
    · exact h
theorem runM_up {w0 : World} (p : Program) (m : Machine) (i : Nat) (listen : Bool) (h : w0.drawn ≤ m.world.drawn) : upT w0 (runT p m i listen) := by
  unfold runT
  dsimp only
  have hs : ∀ g, upG w0 (stepG p (i == 0) g m.world listen) := fun g => by
    have := stepG_up p (i == 0) g m.world listen
    generalize stepG p (i == 0) g m.world listen = s at this ⊢
    cases s <;> first | exact Nat.le_trans h this | exact trivial
  generalize m.gs.swapAt! i { (default : Goroutine) with status := .finished } = x
  obtain ⟨g, gs⟩ := x
  have hg := hs g
  dsimp only
  generalize stepG p (i == 0) g m.world listen = s at hg ⊢
  split
  · exact trivial
  · exact communicate_up hg _ _ _ _ _ _ _ _
  · exact hg
  · exact hg
  · exact upS_ite trivial hg
  · exact hg
  · exact look_up hg _ _ _
  · exact hg
  · exact hg
  · show upS _ _
    dsimp only
    split
    · exact hg
    · split
      · rename_i heq
        unfold endThrow dieOf at heq
        cases heq
        exact hg
      · exact trivial
    · exact trivial
  · show upS _ _
    dsimp only
    split
    · rename_i heq
      show _ ≤ _
      dsimp only
      rw [timerOp_up heq]
      exact hg
    · split
      · rename_i heq
        unfold endThrow dieOf at heq
        cases heq
        exact hg
      · exact trivial
    · exact trivial
    · exact trivial

end Go.Proofs.YtbomplppgobkdaaGreatDoor

namespace Go.Proofs.YtbomplppgobkdaaGreatDoor
open Go

def upM (w : World) : Move → Prop
  | .goroutine m _ => w.drawn ≤ m.world.drawn
  | .machine s _ => upS w s
theorem upM_ite {w : World} {c : Prop} [Decidable c] {a b : Move} (ha : upM w a) (hb : upM w b) : upM w (if c then a else b) := by
  split
  · exact ha
  · exact hb
theorem askOn_up {w0 : World} (p : Program) (m : Machine) (h : w0.drawn ≤ m.world.drawn) : upM w0 (askOn p m) := by
  unfold askOn
  extract_lets mono rs ds pick
  have hpick : ∀ m : Machine, w0.drawn ≤ m.world.drawn → upM w0 (pick m) := by
    intro m h
    show upM w0 (match (choose (.sched rs.length)).run p m.world with
      | .halt _ w => .machine (.ended (.stuck "sched" "") w)
      | .ok k world =>
        if rs.length ≤ 1 then .goroutine { m with world } (rs.getD k 0) else
        match (choose (.extern "sched.slice" 65536)).run p world with
        | .halt _ w => .machine (.ended (.stuck "sched.slice" "") w)
        | .ok n world => .goroutine { m with world, rest := { m.rest with slice := if n = 0 then none else some (rs.getD k 0, n) } } (rs.getD k 0))
    split
    · exact trivial
    · rename_i heq
      have h1 := Nat.le_trans h (run_ok_up heq)
      refine upM_ite h1 ?_
      split
      · exact trivial
      · rename_i heq2
        have h2 := Nat.le_trans h1 (run_ok_up heq2)
        exact h2
  clear_value pick rs ds mono
  split
  · exact trivial
  · rename_i heq
    have h1 := Nat.le_trans h (run_ok_up heq)
    extract_lets m2
    have hm2 : w0.drawn ≤ m2.world.drawn := h1
    clear_value m2
    refine upM_ite (serve_up _ _ _ hm2) ?_
    split
    · split
      · exact hm2
      · refine upM_ite hm2 ?_
        split
        · exact trivial
        · exact trivial
    · split
      · exact hpick _ hm2
      · split
        · exact trivial
        · rename_i heq2
          have h2 := Nat.le_trans h1 (run_ok_up heq2)
          exact hpick _ h2
        · rename_i heq2
          have h2 := Nat.le_trans h1 (run_ok_up heq2)
          exact h2
        · rename_i heq2
          have h2 := Nat.le_trans h1 (run_ok_up heq2)
          exact hpick _ h2
theorem askM_up {w0 : World} (p : Program) (m : Machine) (h : w0.drawn ≤ m.world.drawn) : upM w0 (Go.ask p m) := by
  unfold Go.ask
  split
  · split
    · exact trivial
    · rename_i heq
      have h1 := Nat.le_trans h (run_ok_up heq)
      have h2 := look_up h1 p m.gs m.rest
      split
      · rename_i heq2
        rw [heq2] at h2
        exact askOn_up _ _ h2
      · exact h2
    · rename_i heq
      have h1 := Nat.le_trans h (run_ok_up heq)
      exact askOn_up _ _ h1
  · exact askOn_up _ _ h
theorem move_up {w0 : World} (p : Program) (m : Machine) (h : w0.drawn ≤ m.world.drawn) : upM w0 (move p m) := by
  unfold move
  split
  · exact upM_ite h trivial
  · split
    · exact upM_ite h (askM_up _ _ h)
    · exact askM_up _ _ h
theorem step_up {p : Program} {m m' : Machine} (h : step p m = .next m') : m.world.drawn ≤ m'.world.drawn := by
  have hm := move_up p m (Nat.le_refl m.world.drawn)
  unfold step at h
  have key : upT m.world (stepT p m) := by
    unfold stepT
    split
    · rename_i heq
      rw [heq] at hm
      exact runM_up _ _ _ _ hm
    · rename_i heq
      rw [heq] at hm
      exact hm
  unfold upT at key
  rw [h] at key
  exact key
theorem runN_up {p : Program} : ∀ (n : Nat) {m m' : Machine}, runN p n m = .next m' → m.world.drawn ≤ m'.world.drawn
  | 0, m, m', h => by
    unfold runN at h
    cases h
    exact Nat.le_refl _
  | n + 1, m, m', h => by
    unfold runN at h
    split at h
    · rename_i heq
      exact Nat.le_trans (step_up heq) (runN_up n h)
    · rename_i e
      exact absurd h (e m')
/-- What was drawn stays drawn. -/
theorem Calls.drawn {P : Program} {f : FuncId} {args : Array Value} {w : World} {v : World → Value} {R : World → Prop} (h : Calls P f args w fun e w' => e = .returned (v w') ∧ R w') :
    Calls P f args w fun e w' => e = .returned (v w') ∧ R w' ∧ w.drawn ≤ w'.drawn := by
  intro cs
  obtain ⟨e, w', fr, ⟨rfl, hR⟩, hc, hf⟩ := h cs
  refine ⟨_, w', fr, ⟨rfl, hR, ?_⟩, hc, hf⟩
  obtain ⟨n, hn⟩ : Steps P _ _ := hc
  exact runN_up n hn

end Go.Proofs.YtbomplppgobkdaaGreatDoor

