/-
  Chapter 9: what is shown, put in order by places.
-/
import Derived.Test.YtbipmeldmgpknaaD9e
import Derived.Test.YtbipmeldmgpknaaShelf
namespace Go.Proofs.Ytbipmeldmgpknaa
open Go.RowKit Go.Sort Go.Shelf

instance : Inhabited ST := ⟨zeroST⟩
def encS (e : ST) : List Value := e.cells
def cfS (e f : ST) : Int := cmpP e.r e.c f.r f.c
theorem cfS_lt (e f : ST) : ltOf cfS e f = e.lt f := cmpP_lt e.r e.c f.r f.c
theorem swoS : SWO (ltOf cfS) where
  irrefl x := by rw [cfS_lt, lt_false]; omega
  trans x y z h1 h2 := by rw [cfS_lt, lt_iff] at *; omega
  ntrans x y z h1 h2 := by rw [cfS_lt, lt_false] at *; omega
theorem cmpLaysS (blk off size : Nat) (w : World) : CmpLays Try.prog 19 #[] encS 8 cfS blk off size w :=
  fun _ _ _ _ x y => (cmpShownI x y _).mono fun _ _ q => ⟨q.1, q.2.grown⟩
theorem flat_flatK (l : List ST) : flatK encS 8 l.toArray = (flatS l).toArray := by
  apply Array.ext
  · simp [flatS_length]
  · intro i h1 h2
    have hi : i < l.length * 8 := by simpa using h1
    have hq : i / 8 < l.length := by omega
    have e1 := get_flatK encS 8 l.toArray i (by simpa using hi)
    rw [getElem!_pos _ i h1] at e1
    rw [e1]
    have e2 := flatS_at (List.getElem?_eq_getElem hq) (i % 8) (by omega)
    rw [show i / 8 * 8 + i % 8 = i by omega] at e2
    have h3 : i < (flatS l).length := by simpa using h2
    rw [List.getElem?_eq_getElem h3] at e2
    have e3 : l.toArray[i / 8]! = l[i / 8] := by rw [getElem!_pos _ _ (by simpa using hq)]; simp
    rw [e3]
    have h8 : i % 8 < (encS l[i / 8]).length := by show _ < 8; omega
    rw [getElem!_pos (encS l[i / 8]) (i % 8) h8]
    have e4 : (encS l[i / 8])[i % 8]? = some (flatS l)[i] := e2.symm
    rw [List.getElem?_eq_getElem h8] at e4
    simpa using e4
set_option maxHeartbeats 1000000 in
theorem sortI (v : Value) (l : List ST) (base : Nat) (w : World) (h : OwnR w base v l) (hl : l.length ≤ 4000000) :
    Calls Try.prog 18 #[v, .func (.func 19) #[] #[]] w fun e w' => e = .returned (.tuple #[]) ∧ ∃ l', l'.Perm l ∧ l'.Pairwise (fun x y => y.lt x = false) ∧ OwnR w' base v l' ∧ w.grownBy w' v.ownBlock := by
  have hO := h
  obtain ⟨hfl, h⟩ := h
  rcases h with ⟨rfl, h0⟩ | ⟨g, cap, cur, rfl, hb, hg, hc, hm, hcs, ht⟩
  · have : l = [] := List.eq_nil_of_length_eq_zero h0
    subst this
    refine (AnyF.slices_SortFunc_none laySortF none 0 _ w).mono ?_
    rintro e w' ⟨rfl, rfl⟩
    exact ⟨rfl, [], List.Perm.nil, .nil, hO, ⟨rfl, rfl, rfl, Nat.le_refl _, fun _ _ _ => rfl⟩⟩
  · have hlt : g < w.heap.size := by
      rcases Nat.lt_or_ge g w.heap.size with h' | h'
      · exact h'
      · rw [Array.getElem?_eq_none h'] at hg; cases hg
    have eg : ∀ args w, (callFunc 19 args).run Try.prog w = .ok (.enter 19 args) w := enters_of Try.func19 (by kernel_rfl) rfl
    have hH : HoldsK encS 8 w g 0 l.toArray := by
      intro j hj
      rw [size_flatK] at hj
      rw [flat_flatK, Nat.zero_add]
      have hj' : j < (flatS l).length := by rw [flatS_length]; simpa using hj
      have hjc : j < cur.size := by rw [hcs]; simp at hj; omega
      have e1 : cur[j]? = some (flatS l)[j] := by
        rw [← List.getElem?_eq_getElem hj', ← ht, List.getElem?_take, if_pos (by simpa using hj)]
        simp
      refine ⟨?_, ?_⟩
      · unfold World.cell?
        simp only [hg]
        rw [getElem!_pos _ _ (by simpa using hj')]
        simpa using e1
      · unfold World.frozen?
        simp only [hg]
        simp
    have hcon := AnyQ.slices_SortFunc laySortF 8 Try.isAgg42 Try.sizeOf42 encS (fun _ => rfl) (fun x u hu => by simp [encS] at hu; rcases hu with rfl | rfl | rfl | rfl | rfl | rfl | rfl | rfl <;> rfl) cfS swoS 19 #[] g 0 cap l.toArray w eg (cmpLaysS g 0 _ w) hH hlt (by simp; omega)
    have hs : l.toArray.size = l.length := by simp
    rw [hs] at hcon
    refine hcon.mono ?_
    rintro e w' ⟨rfl, d', n, os, hp, hsrt, rfl⟩
    obtain ⟨p1, _, p3⟩ := hp
    rw [hs] at p1
    have hd : d'.extract 0 l.length = d' := by rw [← p1]; simp
    have hl2 : l.toArray.extract 0 l.length = l.toArray := by simp
    rw [hd, hl2] at p3
    have hlen : d'.toList.length = l.length := by simpa using p1
    have hdd : d' = d'.toList.toArray := by simp
    refine ⟨rfl, d'.toList, by simpa using p3, ?_, ?_, ?_⟩
    · rw [List.pairwise_iff_getElem]
      intro i j hi hj hij
      have := hsrt i j (Nat.zero_le _) hij (by simpa [p1] using hj)
      rw [cfS_lt, getElem!_pos _ _ (by simpa using hj), getElem!_pos _ _ (by simpa using hi)] at this
      simpa using this
    · have hblk : (sortWorldK encS 8 w g 0 n d' os).heap[g]? = some (.cells (putCells id 0 (flatS d'.toList).toArray cur) 42 (0, 0)) := by
        show (w.heap.modify g (onCells (putCells id 0 (flatK encS 8 d'))) ++ os)[g]? = _
        have e5 := flat_flatK d'.toList
        rw [← hdd] at e5
        rw [e5]
        rw [Array.getElem?_append_left (by simpa using hlt), Array.getElem?_modify, if_pos rfl, hg]
        simp [onCells]
      refine ⟨flatS_length _, .inr ⟨g, cap, _, by rw [hlen], hb, hblk, by rw [hlen]; exact hc, hm, by unfold putCells; simpa using hcs, ?_⟩⟩
      apply List.ext_getElem?
      intro i
      rw [hlen, List.getElem?_take]
      have hfl' : (flatS d'.toList).length = l.length * 8 := by rw [flatS_length, hlen]
      split
      · rename_i hi
        have hi' : i < (flatS d'.toList).length := by omega
        have hic : i < cur.size := by rw [hcs]; omega
        unfold putCells
        rw [Array.getElem?_toList, Array.getElem?_mapIdx, Array.getElem?_eq_getElem hic, List.getElem?_eq_getElem hi']
        simp only [Option.map_some, id]
        rw [if_pos ⟨Nat.zero_le _, by simpa using hi'⟩, Nat.sub_zero, getElem!_pos _ _ (by simpa using hi')]
        simp
      · rename_i hi
        rw [List.getElem?_eq_none (by omega)]
    · refine ⟨rfl, rfl, rfl, ?_, fun i hi hne => ?_⟩
      · show w.heap.size ≤ (w.heap.modify g (onCells (putCells id 0 (flatK encS 8 d'))) ++ os).size
        simp
      · have hne : i ≠ g := fun q => hne (by rw [q]; rfl)
        show (w.heap.modify g (onCells (putCells id 0 (flatK encS 8 d'))) ++ os)[i]? = _
        rw [Array.getElem?_append_left (by simpa using hi), Array.getElem?_modify, if_neg (Ne.symm hne)]

end Go.Proofs.Ytbipmeldmgpknaa
