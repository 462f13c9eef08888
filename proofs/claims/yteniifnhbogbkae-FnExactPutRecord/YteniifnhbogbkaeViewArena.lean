/-
  OWN TEXT: an arena that came in, opened.
-/
import Derived.Test.YteniifnhbogbkaeRows
import Derived.Test.YteniifnhbogbkaeViews
namespace Go.Proofs.Yteniifnhbogbkae
open Go.ChangeShapes Go.WideShapes Go.ChangeAt Go.RowKit Go.Deep Go.Joins

theorem Try.own : ownKnob Try.prog.godebug = none := by kernel_rfl
theorem Try.laidOut : laidOutB Try.prog = true := by kernel_rfl
theorem Try.cellsArena : Try.prog.cellsOf 34 = 2 := by kernel_rfl
theorem Try.cellsSlot : Try.prog.cellsOf 92 = 3 := by kernel_rfl
theorem Try.cellsInt : Try.prog.cellsOf 3 = 1 := by kernel_rfl
theorem Try.cellsBool : Try.prog.cellsOf 4 = 1 := by kernel_rfl
theorem Try.bytesSlot : Try.prog.bytesOf 92 = 24 := by kernel_rfl
theorem Try.bytesInt : Try.prog.bytesOf 3 = 8 := by kernel_rfl

/-- An arena that came in, opened. -/
theorem open_arena {H : Type} {enc : TypeId × Value → H} {W : World} {base : Nat} {v : Value} {d : DataW H} {p : List MemPlace} (hv : Value.okWide Try.prog W .any base 34 v)
    (h : DataW.Trod enc Try.prog W 0 (fun _ => true) true 34 v d p) (hw : ∀ x ∈ DataW.weights Try.prog 34 d, x ≤ reachBytes) :
    ∃ ao bo n m c1 c2 A U V F, v = .agg #[.slice ao n c1, .slice bo m c2] ∧ n ≤ 1000000000000000 ∧ m ≤ 1000000000000000 ∧ SlotsAt W ao n A U V ∧ IntsAt W bo m F := by
  obtain ⟨v0, v1, y0, y1, fl, rfl, rfl, rfl, h0, h1⟩ := open_agg2 Try.underlying34 (by kernel_rfl) Try.cellsArena hv h
  obtain ⟨ao, n, c1, A, U, V, rfl, _, _, _, hs, l0⟩ := view_slots Try.underlying31 Try.underlying92 Try.cellsSlot rfl rfl rfl rfl rfl rfl Try.underlying3 Try.underlying4 Try.cellsInt Try.cellsBool h0
  obtain ⟨bo, m, c2, F, rfl, _, _, _, hf, l1⟩ := view_ints Try.underlying32 Try.underlying3 Try.cellsInt h1
  have r0 := len_reach Try.underlying31 Try.bytesSlot l0 (fun x hx => hw x (by simp [DataW.weights, DataW.weightsEach, Try.underlying34, hx]))
  have r1 := len_reach Try.underlying32 Try.bytesInt l1 (fun x hx => hw x (by simp [DataW.weights, DataW.weightsEach, Try.underlying34, hx]))
  unfold reachBytes at r0 r1
  exact ⟨ao, bo, n, m, c1, c2, A, U, V, F, rfl, by omega, by omega, hs, hf⟩

end Go.Proofs.Yteniifnhbogbkae
