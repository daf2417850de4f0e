/-
  A number's text is the library's.
-/
import Derived.Test.YtbebmjiopijheaaDoorTextNum
import Derived.Lib.ItoaNum
namespace Go.Proofs.YtbebmjiopijheaaDoor

theorem digs_dec : ∀ (ds : List Int) (u : Int), Digs ds u → Lib.decDigits u.toNat = ds.reverse.map chr
  | [], _, h => by have := h.2.2.1; simp at this
  | [d], u, ⟨h1, h2, _, _⟩ => by
    have hd := h1 d (by simp)
    have hu : u = d := by rw [← h2]; simp [dv]
    subst hu
    rw [Lib.decDigits, dif_pos (by omega)]
    simp only [List.reverse_singleton, List.map_singleton, chr]
    congr 2
    omega
  | d :: d' :: ds, u, ⟨h1, h2, h3, h4⟩ => by
    have hd := h1 d (by simp)
    have hD : Digs (d' :: ds) (dv (d' :: ds)) := by
      refine ⟨fun x hx => h1 x (by simp only [List.mem_cons] at hx ⊢; exact .inr hx), rfl, by simp, ?_⟩
      simpa using h4
    have hge := hD.ge
    have hp : (0 : Int) < 10 ^ ((d' :: ds).length - 1) := Int.pow_pos (by decide)
    have ih := digs_dec (d' :: ds) _ hD
    have hu : u = d + 10 * dv (d' :: ds) := by rw [← h2]; rfl
    generalize dv (d' :: ds) = v at *
    subst hu
    rw [Lib.decDigits, dif_neg (by omega), List.reverse_cons, List.map_append, ← ih]
    have e1 : (d + 10 * v).toNat / 10 = v.toNat := by omega
    have e2 : (d + 10 * v).toNat % 10 = d.toNat := by omega
    rw [e1, e2]
    simp only [List.map_singleton, chr]
    congr 2
    congr 1
    omega

theorem TextOf.dec {l : List UInt8} {z : Int} (h : TextOf l z) (h0 : 0 ≤ z) : l = Lib.decDigits z.toNat := by
  rcases h with ⟨rfl, rfl⟩ | ⟨ds, h1, rfl⟩
  · rw [Lib.decDigits, dif_pos (by decide)]
    rfl
  · rw [if_neg (by omega), List.nil_append]
    have e : (z.natAbs : Int) = z := by omega
    rw [e] at h1
    exact (digs_dec ds z h1).symm

end Go.Proofs.YtbebmjiopijheaaDoor

