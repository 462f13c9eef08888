/-
  OWN TEXT: what a row's list of variables gives: the cells of the table of bands, and of that of the berths' fares.
-/
import Derived.Test.YtaalhmaacaahhajDoorBandsI
import Derived.ProofKit
import Derived.OpenShut
import Derived.LaidMore
import Derived.WalkSmall
import Derived.Lib.LaidTab
import Derived.Deep.DeepHandedRow
namespace Go.Proofs.YtaalhmaacaahhajDoor
open Go.ChangeShapes Go.WideShapes Go.ChangeAt Go.RowKit

theorem Tryd.gBands : Tryd.prog.globalNamed "loop.example/g00084/impl.carBands" = some 1 := by kernel_rfl
theorem Tryd.gBandsType : (Tryd.prog.globals[1]?).map (·.type) = some 42 := by kernel_rfl
theorem Tryd.gFares : Tryd.prog.globalNamed "loop.example/g00084/impl.berthFares" = some 0 := by kernel_rfl
theorem Tryd.gFaresType : (Tryd.prog.globals[0]?).map (·.type) = some 36 := by kernel_rfl
theorem Tryd.cellsB3 : Tryd.prog.cellsOf 42 = 6 := by kernel_rfl
theorem Tryd.cellsBand : Tryd.prog.cellsOf 41 = 2 := by kernel_rfl
theorem Tryd.cellsI3 : Tryd.prog.cellsOf 36 = 3 := by kernel_rfl
theorem Tryd.cellsI1 : Tryd.prog.cellsOf 3 = 1 := by kernel_rfl

set_option maxRecDepth 100000 in
/-- A band read as its two numbers is those two cells. -/
theorem band_of {H : Type} {enc : TypeId × Value → H} {W : World} {base : Nat} {spare : Nat → Bool} {held : Bool} {m : Nat} {c d : Value} {x : DataW H × List MemPlace} {i j : Int}
    (h : DataW.trod enc Tryd.prog W base spare held m 41 [c, d] = some x) (hx : x.1 = .agg [.lit (.int .i64 i), .lit (.int .i64 j)]) : c = .int .i64 i ∧ d = .int .i64 j := by
  obtain ⟨y0, y1, n, rfl, hl, h0, h1⟩ := trod_struct2 Tryd.underlying41 h
  simp only [Tryd.cellsI1] at h0 h1
  obtain ⟨k0, e0, f0, _⟩ := DataW.trod_int Tryd.underlying3 h0
  obtain ⟨k1, e1, f1, _⟩ := DataW.trod_int Tryd.underlying3 h1
  simp at e0 e1
  rw [f0, f1] at hx
  simp at hx
  obtain ⟨rfl, rfl⟩ := hx
  exact ⟨e0, e1⟩

set_option maxRecDepth 100000 in
theorem bands_of {H : Type} {enc : TypeId × Value → H} {W : World} {base : Nat} {spare : Nat → Bool} {held : Bool} {fuel : Nat} {p : List MemPlace} {cs : Array Value}
    (hv : W.var? Tryd.prog "loop.example/g00084/impl.carBands" = some cs)
    (hd : DataW.trod enc Tryd.prog W base spare held fuel 42 cs.toList = some (Rows.laid_loop_example_g00084_impl_carBands, p)) : BandsAt W := by
  obtain ⟨xs, m, _, hx, hlen, hn, hel⟩ := DataW.trod_array Tryd.underlying42 hd
  rw [Tryd.cellsB3] at hlen
  rw [Tryd.cellsBand] at hel
  have cell := World.var?_cell Tryd.gBands hv
  obtain ⟨l⟩ := cs
  simp only [Prod.mk.injEq] at hx
  have hx := hx.1
  match xs, hn, l, hlen with
  | [x0, x1, x2], _, [c0, c1, c2, c3, c4, c5], _ =>
    have h0 := hel 0 (by decide)
    have h1 := hel 1 (by decide)
    have h2 := hel 2 (by decide)
    simp at h0 h1 h2
    simp [Rows.laid_loop_example_g00084_impl_carBands] at hx
    obtain ⟨rfl, rfl⟩ := band_of h0 hx.1.symm
    obtain ⟨rfl, rfl⟩ := band_of h1 hx.2.1.symm
    obtain ⟨rfl, rfl⟩ := band_of h2 hx.2.2.symm
    exact ⟨by simpa using cell 0, by simpa using cell 1, by simpa using cell 2, by simpa using cell 3, by simpa using cell 4, by simpa using cell 5⟩

set_option maxRecDepth 100000 in
theorem fares_of {H : Type} {enc : TypeId × Value → H} {W : World} {base : Nat} {spare : Nat → Bool} {held : Bool} {fuel : Nat} {p : List MemPlace} {cs : Array Value}
    (hv : W.var? Tryd.prog "loop.example/g00084/impl.berthFares" = some cs)
    (hd : DataW.trod enc Tryd.prog W base spare held fuel 36 cs.toList = some (Rows.laid_loop_example_g00084_impl_berthFares, p)) : FaresAt W := by
  obtain ⟨xs, m, _, hx, hlen, hn, hel⟩ := DataW.trod_array Tryd.underlying36 hd
  rw [Tryd.cellsI3] at hlen
  rw [Tryd.cellsI1] at hel
  have cell := World.var?_cell Tryd.gFares hv
  obtain ⟨l⟩ := cs
  simp only [Prod.mk.injEq] at hx
  have hx := hx.1
  match xs, hn, l, hlen with
  | [x0, x1, x2], _, [c0, c1, c2], _ =>
    have h0 := hel 0 (by decide)
    have h1 := hel 1 (by decide)
    have h2 := hel 2 (by decide)
    simp at h0 h1 h2
    obtain ⟨k0, e0, f0, _⟩ := DataW.trod_int Tryd.underlying3 h0
    obtain ⟨k1, e1, f1, _⟩ := DataW.trod_int Tryd.underlying3 h1
    obtain ⟨k2, e2, f2, _⟩ := DataW.trod_int Tryd.underlying3 h2
    simp [Rows.laid_loop_example_g00084_impl_berthFares, f0, f1, f2] at hx
    simp at e0 e1 e2
    obtain ⟨rfl, rfl, rfl⟩ := hx
    subst e0 e1 e2
    exact ⟨by simpa using cell 0, by simpa using cell 1, by simpa using cell 2⟩

theorem laid_bands {W : World} (h : laidMetH Tryd.prog [("loop.example/g00084/impl.carBands", Rows.laid_loop_example_g00084_impl_carBands)] W) : BandsAt W := by
  rw [MakeChecks.laidMetH_plain _ _ _ (by kernel_rfl)] at h
  obtain ⟨ps, ⟨g0, t0, cs0, f0, p0, q0, hg0, ht0, hv0, hd0, _⟩, _, _⟩ := h
  obtain rfl := Option.some.inj (Tryd.gBands.symm.trans hg0)
  obtain rfl := Option.some.inj (Tryd.gBandsType.symm.trans ht0)
  exact bands_of hv0 hd0
theorem laid_fares {W : World} (h : laidMetH Tryd.prog [("loop.example/g00084/impl.berthFares", Rows.laid_loop_example_g00084_impl_berthFares)] W) : FaresAt W := by
  rw [MakeChecks.laidMetH_plain _ _ _ (by kernel_rfl)] at h
  obtain ⟨ps, ⟨g0, t0, cs0, f0, p0, q0, hg0, ht0, hv0, hd0, _⟩, _, _⟩ := h
  obtain rfl := Option.some.inj (Tryd.gFares.symm.trans hg0)
  obtain rfl := Option.some.inj (Tryd.gFaresType.symm.trans ht0)
  exact fares_of hv0 hd0
theorem laid_both {W : World} (h : laidMetH Tryd.prog [("loop.example/g00084/impl.carBands", Rows.laid_loop_example_g00084_impl_carBands), ("loop.example/g00084/impl.berthFares", Rows.laid_loop_example_g00084_impl_berthFares)] W) : BandsAt W ∧ FaresAt W := by
  rw [MakeChecks.laidMetH_plain _ _ _ (by kernel_rfl)] at h
  obtain ⟨ps, ⟨g0, t0, cs0, f0, p0, q0, hg0, ht0, hv0, hd0, ⟨g1, t1, cs1, f1, p1, q1, hg1, ht1, hv1, hd1, _⟩, _⟩, _, _⟩ := h
  obtain rfl := Option.some.inj (Tryd.gBands.symm.trans hg0)
  obtain rfl := Option.some.inj (Tryd.gBandsType.symm.trans ht0)
  obtain rfl := Option.some.inj (Tryd.gFares.symm.trans hg1)
  obtain rfl := Option.some.inj (Tryd.gFaresType.symm.trans ht1)
  exact ⟨bands_of hv0 hd0, fares_of hv1 hd1⟩

end Go.Proofs.YtaalhmaacaahhajDoor
