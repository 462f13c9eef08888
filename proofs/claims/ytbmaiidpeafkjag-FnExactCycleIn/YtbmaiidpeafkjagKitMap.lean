/-
  OWN TEXT: a set of tasks in a map of the call's own: made, cleared, asked, put into.
-/
import Derived.Test.YtbmaiidpeafkjagPlainC
import Derived.Maps.OwnSet
import Derived.Maps.OwnOps
namespace Go.Proofs.Ytbmaiidpeafkjag
open Go.RowKit Go.MapKept Go.ChangeMaps

theorem Try.keyed : Maps.Keyed Try.prog 3 := Maps.int_keyed Try.underlying3
/-- The block b holds the set of the tasks rs. -/
def SetIs (w : World) (b : Nat) (rs : List Int) : Prop :=
  ∃ D : DataW Unit, w.ownsMap Try.prog 3 unitElem b rs.length D ∧ rs.Nodup ∧ (∀ y, y ∈ rs → isTask y) ∧ ∀ y, y ∈ rs → Maps.has D (.int .i64 y) = true
theorem SetIs.block {w : World} {b : Nat} {rs : List Int} (h : SetIs w b rs) : ∃ es clock, w.heap[b]? = some (.map es clock) := by
  obtain ⟨D, ⟨es, clock, hb, _⟩, _⟩ := h
  exact ⟨es, clock, hb⟩
theorem SetIs.kept {w w' : World} {S : Nat → Prop} {b : Nat} {rs : List Int} (h : SetIs w b rs) (hk : Kept w w' S) (hs : ¬ S b) : SetIs w' b rs := by
  obtain ⟨D, ⟨es, clock, hb, r⟩, h2⟩ := h
  exact ⟨D, ⟨es, clock, (hk.block b (blk_lt hb) hs).trans hb, r⟩, h2⟩
theorem SetIs.below {w w' : World} {b : Nat} {rs : List Int} (h : SetIs w b rs) (hb : Below w.heap.size w w') : SetIs w' b rs := h.kept (S := fun _ => False) (Kept.of_below hb) (fun h => h)
theorem set_made (w : World) : SetIs (w.alloc (.map #[] 0)) w.heap.size [] := ⟨.map [], World.ownsMap_made w _ _ _, List.nodup_nil, by simp, by simp⟩
theorem SetIs.few {w : World} {b : Nat} {rs : List Int} (h : SetIs w b rs) : rs.length ≤ 12 := by
  obtain ⟨D, _, h2, h3, _⟩ := h
  exact few_tasks rs h2 h3
/-- A row of cells is not the block of a set. -/
theorem SetIs.not_row {w : World} {b base e size n : Nat} {rs : List Int} {v : Value} {xs : List Value} (h : SetIs w b rs) (ho : w.ownsRow base e size v n xs) : v.ownBlock ≠ some b := by
  obtain ⟨es, clock, hb⟩ := h.block
  intro e
  rcases ho.2 with ⟨rfl, _⟩ | ⟨g, cap, cur, rfl, _, hg, _⟩
  · simp [Value.ownBlock] at e
  · simp only [Value.ownBlock, Option.some.injEq] at e
    subst e
    rw [hb] at hg
    simp at hg
theorem key_task {y : Int} (h : isTask y) : keyOf Try.prog 3 (.int .i64 y) = some (.int .i64 y) := by
  obtain ⟨h1, h2⟩ := h
  have hw : (Lit.int .i64 y).wf = true := by simp [Lit.wf, IntKind.min, IntKind.max, IntKind.signed, IntKind.bits]; omega
  simp [keyOf, mapKey, Try.underlying3, hw]
theorem run_clear_map {P : Program} {w : World} {b : Nat} {es : Array MapEntry} {clock : Nat} {t k e : TypeId} (ht : P.underlying t = some (.map k e)) (hb : w.heap[b]? = some (.map es clock)) (ty : TypeId) :
    (Builtin.clear_ #[t] ty #[.map (some b)]).run P w = .ok (.tuple #[]) (setBlock w b (.map #[] clock)) := by
  simp [Builtin.clear_, run_underlying ht, getObj, setObj, Sem.run, hb, setBlock]
theorem set_clear {w : World} {b : Nat} {rs : List Int} (h : SetIs w b rs) (t : TypeId) {k e : TypeId} (ht : Try.prog.underlying t = some (.map k e)) :
    ∃ w', (∀ ty, (Builtin.clear_ #[t] ty #[.map (some b)]).run Try.prog w = .ok (.tuple #[]) w') ∧ SetIs w' b [] ∧ w.grownBy w' (some b) := by
  obtain ⟨es, clock, hb⟩ := h.block
  refine ⟨setBlock w b (.map #[] clock), run_clear_map ht hb, ?_, ?_⟩
  · exact ⟨.map [], ⟨#[], clock, heap_setBlock_same hb _, ⟨by simp, stamped_empty clock, by simp⟩, Nat.le_refl _, rfl⟩, List.nodup_nil, by simp, by simp⟩
  · exact ⟨rfl, rfl, rfl, by simp [setBlock], fun i _ hi => heap_setBlock_other hb _ (fun e => hi (by rw [e]))⟩

end Go.Proofs.Ytbmaiidpeafkjag
