/-
  OWN TEXT: VOffice.
-/
import Derived.Test.YtlelckbeoclhbaaGreatB32
import Derived.Test.YtlelckbeoclhbaaGreatB33
import Derived.Test.YtlelckbeoclhbaaGreatB08
import Derived.Test.YtlelckbeoclhbaaGreatB37
import Derived.Test.YtlelckbeoclhbaaGreatB38
import Derived.Test.YtlelckbeoclhbaaGreatB39
import Derived.Test.YtlelckbeoclhbaaGreatB10
set_option maxHeartbeats 12800000
set_option maxRecDepth 100000
namespace Go.Proofs.YtlelckbeoclhbaaGreat
open Go.ChangeShapes Go.WideShapes Go.ChangeAt Go.RowKit Go.Deep Go.Joins
theorem Tryz.cellsOffice : Tryz.prog.cellsOf 26 = 3 := by kernel_rfl
theorem Tryz.cellsBookSOffice : Tryz.prog.cellsOf 24 = 1 := by kernel_rfl
theorem Tryz.cellsLoadSOffice : Tryz.prog.cellsOf 23 = 1 := by kernel_rfl
theorem Tryz.cellsSailSOffice : Tryz.prog.cellsOf 22 = 1 := by kernel_rfl
theorem trod_struct_office {H : Type} {enc : TypeId × Value → H} {P : Program} {w : World} {base : Nat} {spare : Nat → Bool} {held : Bool} {t : TypeId} {f0 f1 f2 : Field} {fuel : Nat} {cs : List Value} {x : DataW H × List MemPlace} (ht : P.underlying t = some (.struct #[f0, f1, f2])) (h : DataW.trod enc P w base spare held fuel t cs = some x) :
    ∃ y0 y1 y2 n, x.1 = .agg [y0.1, y1.1, y2.1] ∧ cs.length = P.cellsOf t ∧ DataW.trod enc P w base spare held n f0.type ((cs.drop f0.offset).take (P.cellsOf f0.type)) = some y0 ∧ DataW.trod enc P w base spare held n f1.type ((cs.drop f1.offset).take (P.cellsOf f1.type)) = some y1 ∧ DataW.trod enc P w base spare held n f2.type ((cs.drop f2.offset).take (P.cellsOf f2.type)) = some y2 := by
  obtain ⟨xs, n, _, rfl, hl, hlen, hf⟩ := DataW.trod_struct ht h
  match xs, hlen with
  | [y0, y1, y2], _ => exact ⟨y0, y1, y2, n, by simp, hl, by simpa using hf 0 f0 rfl, by simpa using hf 1 f1 rfl, by simpa using hf 2 f2 rfl⟩
theorem list_office {α : Type} {cs : List α} (h : cs.length = 3) : ∃ c0 c1 c2, cs = [c0, c1, c2] := by
  match cs, h with
  | [c0, c1, c2], _ => exact ⟨c0, c1, c2, rfl⟩
theorem view_office {H : Type} {enc : TypeId × Value → H} {W : World} {base fuel : Nat} {held : Bool} {cs : List Value} {x : DataW H × List MemPlace}
    (h : DataW.trod enc Tryz.prog W base (fun _ => true) held fuel 26 cs = some x) (hw : ∀ y ∈ DataW.weights Tryz.prog 26 x.1, y ≤ reachBytes) :
    ∃ s : Off, Off.Is W cs s ∧ Off.Short s 1000000000000000 := by
  obtain ⟨y0, y1, y2, n, hx, hl, h0, h1, h2⟩ := trod_struct_office Tryz.underlying26 h
  rw [hx] at hw
  rw [Tryz.cellsOffice] at hl
  obtain ⟨c0, c1, c2, rfl⟩ := list_office hl
  simp only [Tryz.cellsBookSOffice, Tryz.cellsLoadSOffice, Tryz.cellsSailSOffice, List.drop, List.take] at h0 h1 h2
  obtain ⟨asa, nsa, csa, lsa, e0, gsa, ssa, zsa, qsa⟩ := view_sails h0 (fun x hx => hw x (by simp [DataW.weights, DataW.weightsEach, Tryz.underlying26, hx]))
  obtain ⟨ald, nld, cld, lld, e1, gld, sld, zld, qld⟩ := view_loads h1 (fun x hx => hw x (by simp [DataW.weights, DataW.weightsEach, Tryz.underlying26, hx]))
  obtain ⟨abk, nbk, cbk, lbk, e2, gbk, sbk, zbk, qbk⟩ := view_bookings h2 (fun x hx => hw x (by simp [DataW.weights, DataW.weightsEach, Tryz.underlying26, hx]))
  subst e0 e1 e2
  exact ⟨⟨nsa, lsa, nld, lld, nbk, lbk⟩, ⟨asa, csa, ald, cld, abk, cbk, rfl, gsa, ssa, gld, sld, gbk, sbk⟩, ⟨⟨(show nsa ≤ _ from qsa), zsa⟩, ⟨(show nld ≤ _ from qld), zld⟩, ⟨(show nbk ≤ _ from qbk), zbk⟩⟩⟩
theorem open_office {H : Type} {enc : TypeId × Value → H} {W : World} {base : Nat} {v : Value} {d : DataW H} {p : List MemPlace} (hv : Value.okWide Tryz.prog W .any base 26 v)
    (h : DataW.Trod enc Tryz.prog W 0 (fun _ => true) true 26 v d p) (hw : ∀ x ∈ DataW.weights Tryz.prog 26 d, x ≤ reachBytes) :
    ∃ (cs : List Value) (s : Off), v = .agg cs.toArray ∧ Off.Is W cs s ∧ Off.Short s 1000000000000000 := by
  obtain ⟨cs, rfl, _⟩ := okWide_struct Tryz.underlying26 hv
  obtain ⟨fuel, hf⟩ := h
  obtain ⟨s, h1, h2⟩ := view_office hf hw
  exact ⟨cs.toList, s, by simp, by simpa [Value.cells] using h1, h2⟩
end Go.Proofs.YtlelckbeoclhbaaGreat
