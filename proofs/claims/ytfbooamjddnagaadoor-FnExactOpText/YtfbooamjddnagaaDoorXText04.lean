/-
  OWN TEXT: ViewInts.
-/
import Derived.Test.YtfbooamjddnagaaDoorXText03
namespace Go.Proofs.YtfbooamjddnagaaDoor
open Go.ChangeShapes Go.WideShapes Go.ChangeAt Go.RowKit Go.Deep Go.Joins

theorem Tryd.bytesInt : Tryd.prog.bytesOf 3 = 8 := by kernel_rfl
set_option maxRecDepth 100000 in
theorem open_ints_arg {H : Type} {enc : TypeId × Value → H} {W : World} {base : Nat} {v : Value} {d : DataW H} {p : List MemPlace} (hv : Value.okWide Tryd.prog W .any base 22 v)
    (h : DataW.Trod enc Tryd.prog W 0 (fun _ => true) true 22 v d p) (hw : ∀ x ∈ DataW.weights Tryd.prog 22 d, x ≤ reachBytes) :
    ∃ ao n c F, v = .slice ao n c ∧ n ≤ 1000000000000000 ∧ IntsAt W ao n F := by
  obtain ⟨fuel, hf⟩ := h
  rw [okWide_slice_is Tryd.underlying22 hv] at hf
  obtain ⟨ao, n, c, F, rfl, _, _, _, hi, hl⟩ := view_ints Tryd.underlying22 Tryd.underlying3 Tryd.cellsInt hf
  have r := len_reach Tryd.underlying22 Tryd.bytesInt hl hw
  unfold reachBytes at r
  exact ⟨ao, n, c, F, rfl, by omega, hi⟩

end Go.Proofs.YtfbooamjddnagaaDoor
