/-
  OWN TEXT: rows of which only the form is told, and how one of them bears that another, or itself, is marked. No theorem of the program.
-/
import Derived.Test.YtcioofnmhfehaaaKit2
import Derived.Deep.Slices
namespace Go.Proofs.Ytcioofnmhfehaaa
open Go.RowKit

/-- The block b, from base on, is a row of n elements, of a form. -/
def OwnAny (w : World) (base t sz b n : Nat) (Q : List Value → Prop) : Prop := ∃ xs, Q xs ∧ w.ownsRow base t sz (.slice (some ⟨b, 0, none⟩) n n) n xs
theorem own_block {w : World} {base t sz b n : Nat} {xs : List Value} (h : w.ownsRow base t sz (.slice (some ⟨b, 0, none⟩) n n) n xs) : ∃ cur, w.heap[b]? = some (.cells cur t (0, 0)) ∧ cur.size = n * sz := by
  rcases h.2 with ⟨h0, _⟩ | ⟨g, cap, cur, hv, _, hg, _, _, hs, _⟩
  · cases h0
  · simp only [Value.slice.injEq, Option.some.injEq, Addr.mk.injEq] at hv
    obtain ⟨⟨rfl, _, _⟩, _, rfl⟩ := hv
    exact ⟨cur, hg, hs⟩
theorem OwnAny.lt {w : World} {base t sz b n : Nat} {Q : List Value → Prop} (h : OwnAny w base t sz b n Q) : b < w.heap.size := by
  obtain ⟨xs, _, ho⟩ := h
  obtain ⟨cur, hg, _⟩ := own_block ho
  exact blk_lt hg
/-- Another row, or itself, is marked. -/
theorem OwnAny.after {w w' : World} {base t sz b n t' sz' g n' : Nat} {Q Q' : List Value → Prop} (h : OwnAny w base t sz b n Q) (hg : OwnAny w base t' sz' g n' Q') (hk : Kept w w' (fun x => x = g)) (hz : 0 < sz) (he : t = t' → sz = sz') (hs : t = t' → n = n' → OwnAny w' base t sz g n Q) : OwnAny w' base t sz b n Q := by
  by_cases e : b = g
  · subst e
    obtain ⟨xs, hq, ho⟩ := h
    obtain ⟨ys, hq', ho'⟩ := hg
    obtain ⟨c1, g1, s1⟩ := own_block ho
    obtain ⟨c2, g2, s2⟩ := own_block ho'
    rw [g1] at g2
    simp only [Option.some.injEq, Obj.cells.injEq] at g2
    obtain ⟨rfl, rfl, _⟩ := g2
    obtain rfl := he rfl
    exact hs rfl (Nat.eq_of_mul_eq_mul_right hz (s1.symm.trans s2))
  · obtain ⟨xs, hq, ho⟩ := h
    exact ⟨xs, hq, hk.own ho (fun b' hb' e' => by simp only [Value.ownBlock, Option.some.injEq] at hb'; omega)⟩
theorem OwnAny.kept {w w' : World} {base t sz b n : Nat} {Q : List Value → Prop} {T : Nat → Prop} (h : OwnAny w base t sz b n Q) (hk : Kept w w' T) (hT : ¬ T b) : OwnAny w' base t sz b n Q := by
  obtain ⟨xs, hq, ho⟩ := h
  exact ⟨xs, hq, hk.own ho (fun b' hb' e' => by simp only [Value.ownBlock, Option.some.injEq] at hb'; subst hb'; exact hT e')⟩

end Go.Proofs.Ytcioofnmhfehaaa
