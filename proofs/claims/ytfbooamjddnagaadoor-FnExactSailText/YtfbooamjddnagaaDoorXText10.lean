/-
  OWN TEXT: LaidS.
-/
import Derived.Test.YtfbooamjddnagaaDoorXText09
import Derived.Test.YtfbooamjddnagaaDoorB15
namespace Go.Proofs.YtfbooamjddnagaaDoor
open Go.ChangeShapes Go.WideShapes Go.ChangeAt Go.RowKit

theorem Tryd.gLines : Tryd.prog.globalNamed "loop.example/g00084/impl.lineForms" = some 2 := by kernel_rfl
theorem Tryd.gLinesType : (Tryd.prog.globals[2]?).map (·.type) = some 131 := by kernel_rfl
theorem Tryd.cellsL11 : Tryd.prog.cellsOf 131 = 22 := by kernel_rfl
theorem Tryd.cellsLine : Tryd.prog.cellsOf 130 = 2 := by kernel_rfl

set_option maxHeartbeats 1600000 in
set_option maxRecDepth 100000 in
theorem lineForm_of {H : Type} {enc : TypeId × Value → H} {W : World} {base : Nat} {spare : Nat → Bool} {held : Bool} {m : Nat} {l : List Value} {x : DataW H × List MemPlace} {a : List UInt8} {i : Int}
    (h : DataW.trod enc Tryd.prog W base spare held m 130 l = some x) (hx : x.1 = .agg [.lit (.string a), .lit (.int .i64 i)]) : l[0]? = some (.string ⟨a.toArray⟩) := by
  obtain ⟨xs, n, _, rfl, hl, hlen, hf⟩ := DataW.trod_struct Tryd.underlying130 h
  rw [Tryd.cellsLine] at hl
  match xs, hlen, l, hl with
  | [y0, y1], _, [c0, c1], _ =>
    have g0 := hf 0 _ rfl
    have g1 := hf 1 _ rfl
    simp [Tryd.cellsInt1, Tryd.cellsStr1] at g0 g1
    obtain ⟨s0, e0, p0, _⟩ := DataW.trod_string Tryd.underlying9 g0
    obtain ⟨k1, e1, p1, _⟩ := DataW.trod_int Tryd.underlying3 g1
    simp [p0, p1] at hx
    simp at e0
    rw [e0, bytes_of hx.1]
    rfl

set_option maxHeartbeats 1600000 in
set_option maxRecDepth 100000 in
theorem line_of {H : Type} {enc : TypeId × Value → H} {W : World} {base : Nat} {spare : Nat → Bool} {held : Bool} {fuel : Nat} {p : List MemPlace} {cs : Array Value}
    (hv : W.var? Tryd.prog "loop.example/g00084/impl.lineForms" = some cs)
    (hd : DataW.trod enc Tryd.prog W base spare held fuel 131 cs.toList = some (Rows.laid_loop_example_g00084_impl_lineForms, p)) : LineAt W := by
  obtain ⟨xs, m, _, hx, hlen, hn, hel⟩ := DataW.trod_array Tryd.underlying131 hd
  rw [Tryd.cellsL11] at hlen
  rw [Tryd.cellsLine] at hel
  have cell := World.var?_cell Tryd.gLines hv
  obtain ⟨l⟩ := cs
  simp only [Prod.mk.injEq] at hx
  have hx := hx.1
  match xs, hn with
  | [x0, x1, x2, x3, x4, x5, x6, x7, x8, x9, x10], _ =>
    simp [Rows.laid_loop_example_g00084_impl_lineForms] at hx
    obtain ⟨q0, q1, _⟩ := hx
    have hr := lineForm_of (hel 1 (by decide)) q1.symm
    have c := cell 2
    simp at c hr
    unfold LineAt
    rw [c]
    exact hr

theorem laid_sail {W : World} {a b : DataW Unit} (h : laidMet Tryd.prog [("math/bits.deBruijn32tab", a), ("math/bits.deBruijn64tab", b), ("internal/strconv.uint64pow10", Rows.laid_internal_strconv_uint64pow10), ("loop.example/g00084/impl.lineForms", Rows.laid_loop_example_g00084_impl_lineForms)] W) : PowAt W ∧ LineAt W := by
  obtain ⟨ps, ⟨_, _, _, _, _, _, _, _, _, _, ⟨_, _, _, _, _, _, _, _, _, _, ⟨g2, t2, cs2, f2, p2, q2, hg2, ht2, hv2, hd2, ⟨g3, t3, cs3, f3, p3, q3, hg3, ht3, hv3, hd3, _⟩, _⟩, _⟩, _⟩, _⟩ := h
  obtain rfl := Option.some.inj (Tryd.gPow.symm.trans hg2)
  obtain rfl := Option.some.inj (Tryd.gPowType.symm.trans ht2)
  obtain rfl := Option.some.inj (Tryd.gLines.symm.trans hg3)
  obtain rfl := Option.some.inj (Tryd.gLinesType.symm.trans ht3)
  exact ⟨pow_of hv2 hd2, line_of hv3 hd3⟩

end Go.Proofs.YtfbooamjddnagaaDoor
