/-
  OWN TEXT: ViewI.
-/
import Derived.Test.YtfbooamjddnagaaDoorXText04
import Derived.Test.YtfbooamjddnagaaDoorXText05
namespace Go.Proofs.YtfbooamjddnagaaDoor
open Go.ChangeShapes Go.WideShapes Go.ChangeAt Go.RowKit Go.Deep Go.Joins

theorem view_ints' {H : Type} {enc : TypeId × Value → H} {W : World} {base fuel : Nat} {held : Bool} {v : Value} {x : DataW H × List MemPlace}
    (h : DataW.trod enc Tryd.prog W base (fun _ => true) held fuel 22 [v] = some x) (hw : ∀ y ∈ DataW.weights Tryd.prog 22 x.1, y ≤ reachBytes) :
    ∃ ao n cap S, v = .slice ao n cap ∧ IntsAt W ao n S ∧ SliceOk ao n cap ∧ n ≤ 1000000000000000 := by
  obtain ⟨ao, n, cap, C, rfl, hr, hl, hn, hb, hk⟩ := view_list Tryd.underlying22 Tryd.cellsInt (by omega) Tryd.bytesInt h hw
  have key : ∀ k, k < n → ∃ y : Int, C k = [.int .i64 y] := by
    intro k hk'
    obtain ⟨hlen, fl, z, ht, _⟩ := hk k hk'
    obtain ⟨i, e, _, _⟩ := DataW.trod_int Tryd.underlying3 ht
    exact ⟨i, e⟩
  obtain ⟨S, hS⟩ := choose_lt key
  refine ⟨ao, n, cap, S, rfl, fun k hk' => ?_, ⟨hl, by unfold reachBytes at hb; omega, hn⟩, by unfold reachBytes at hb; omega⟩
  obtain ⟨b, off, e, hc⟩ := hr k hk'
  have g := hc 0 (by omega)
  rw [hS k hk', Nat.mul_one] at g
  exact ⟨b, off, e, g⟩

end Go.Proofs.YtfbooamjddnagaaDoor
