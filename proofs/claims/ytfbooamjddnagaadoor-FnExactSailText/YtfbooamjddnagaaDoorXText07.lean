/-
  OWN TEXT: ViewSail.
-/
import Derived.Test.YtfbooamjddnagaaDoorXText05
import Derived.Test.YtfbooamjddnagaaDoorXText06
import Derived.Test.YtfbooamjddnagaaDoorXText02
namespace Go.Proofs.YtfbooamjddnagaaDoor
open Go.ChangeShapes Go.WideShapes Go.ChangeAt Go.RowKit Go.Deep Go.Joins

section
variable {H : Type} {enc : TypeId × Value → H} {P : Program} {w : World} {base : Nat} {spare : Nat → Bool} {held : Bool}

theorem trod_struct8 {t : TypeId} {f0 f1 f2 f3 f4 f5 f6 f7 : Field} {fuel : Nat} {cs : List Value} {x : DataW H × List MemPlace} (ht : P.underlying t = some (.struct #[f0, f1, f2, f3, f4, f5, f6, f7])) (h : DataW.trod enc P w base spare held fuel t cs = some x) :
    ∃ y0 y1 y2 y3 y4 y5 y6 y7 n, x.1 = .agg [y0.1, y1.1, y2.1, y3.1, y4.1, y5.1, y6.1, y7.1] ∧ cs.length = P.cellsOf t ∧ DataW.trod enc P w base spare held n f0.type ((cs.drop f0.offset).take (P.cellsOf f0.type)) = some y0 ∧
      DataW.trod enc P w base spare held n f1.type ((cs.drop f1.offset).take (P.cellsOf f1.type)) = some y1 ∧ DataW.trod enc P w base spare held n f2.type ((cs.drop f2.offset).take (P.cellsOf f2.type)) = some y2 ∧
      DataW.trod enc P w base spare held n f3.type ((cs.drop f3.offset).take (P.cellsOf f3.type)) = some y3 ∧ DataW.trod enc P w base spare held n f4.type ((cs.drop f4.offset).take (P.cellsOf f4.type)) = some y4 ∧
      DataW.trod enc P w base spare held n f5.type ((cs.drop f5.offset).take (P.cellsOf f5.type)) = some y5 ∧ DataW.trod enc P w base spare held n f6.type ((cs.drop f6.offset).take (P.cellsOf f6.type)) = some y6 ∧
      DataW.trod enc P w base spare held n f7.type ((cs.drop f7.offset).take (P.cellsOf f7.type)) = some y7 := by
  obtain ⟨xs, n, _, rfl, hl, hlen, hf⟩ := DataW.trod_struct ht h
  match xs, hlen with
  | [y0, y1, y2, y3, y4, y5, y6, y7], _ => exact ⟨y0, y1, y2, y3, y4, y5, y6, y7, n, by simp, hl, by simpa using hf 0 f0 rfl, by simpa using hf 1 f1 rfl, by simpa using hf 2 f2 rfl, by simpa using hf 3 f3 rfl, by simpa using hf 4 f4 rfl, by simpa using hf 5 f5 rfl, by simpa using hf 6 f6 rfl, by simpa using hf 7 f7 rfl⟩
theorem list8 {α : Type} {cs : List α} (h : cs.length = 8) : ∃ c0 c1 c2 c3 c4 c5 c6 c7, cs = [c0, c1, c2, c3, c4, c5, c6, c7] := by
  match cs, h with
  | [c0, c1, c2, c3, c4, c5, c6, c7], _ => exact ⟨c0, c1, c2, c3, c4, c5, c6, c7, rfl⟩

end

theorem Tryd.cellsSailing : Tryd.prog.cellsOf 43 = 8 := by kernel_rfl
theorem Tryd.cellsLane : Tryd.prog.cellsOf 123 = 2 := by kernel_rfl
theorem Tryd.cellsLaneS : Tryd.prog.cellsOf 40 = 1 := by kernel_rfl
theorem Tryd.cellsCabin : Tryd.prog.cellsOf 125 = 2 := by kernel_rfl
theorem Tryd.cellsCabinS : Tryd.prog.cellsOf 41 = 1 := by kernel_rfl
theorem Tryd.cellsStr : Tryd.prog.cellsOf 9 = 1 := by kernel_rfl
theorem Tryd.bytesLane : Tryd.prog.bytesOf 123 = 16 := by kernel_rfl
theorem Tryd.bytesCabin : Tryd.prog.bytesOf 125 = 16 := by kernel_rfl

set_option maxRecDepth 100000 in
set_option maxHeartbeats 800000 in
/-- The cells of a sailing that came in. -/
theorem view_sail {H : Type} {enc : TypeId × Value → H} {W : World} {base fuel : Nat} {held : Bool} {cs : List Value} {x : DataW H × List MemPlace}
    (h : DataW.trod enc Tryd.prog W base (fun _ => true) held fuel 43 cs = some x) (hw : ∀ y ∈ DataW.weights Tryd.prog 43 x.1, y ≤ reachBytes) :
    ∃ (s : Sail) (la : Option Addr) (lc : Nat) (ca : Option Addr) (cc : Nat), cs = [.int .i64 s.id, .string s.fr, .string s.dst, .int .i64 s.dep, .int .i64 s.arr, .slice la s.la.n lc, .slice ca s.ca.n cc, .int .i64 s.most] ∧
      PairsAt W la s.la ∧ PairsAt W ca s.ca ∧ SliceOk la s.la.n lc ∧ SliceOk ca s.ca.n cc ∧ ShortS s 1000000000000000 := by
  obtain ⟨y0, y1, y2, y3, y4, y5, y6, y7, n, hx, hl, h0, h1, h2, h3, h4, h5, h6, h7⟩ := trod_struct8 Tryd.underlying43 h
  rw [hx] at hw
  rw [Tryd.cellsSailing] at hl
  obtain ⟨c0, c1, c2, c3, c4, c5, c6, c7, rfl⟩ := list8 hl
  simp only [Tryd.cellsInt, Tryd.cellsStr, Tryd.cellsLaneS, Tryd.cellsCabinS, List.drop, List.take] at h0 h1 h2 h3 h4 h5 h6 h7
  obtain ⟨i0, e0, _, _⟩ := DataW.trod_int Tryd.underlying3 h0
  obtain ⟨s1, e1, x1, _⟩ := DataW.trod_string Tryd.underlying9 h1
  obtain ⟨s2, e2, x2, _⟩ := DataW.trod_string Tryd.underlying9 h2
  obtain ⟨i3, e3, _, _⟩ := DataW.trod_int Tryd.underlying3 h3
  obtain ⟨i4, e4, _, _⟩ := DataW.trod_int Tryd.underlying3 h4
  obtain ⟨i7, e7, _, _⟩ := DataW.trod_int Tryd.underlying3 h7
  obtain ⟨la, lc, l1, rfl, a1, a2, a3, a4⟩ := view_pairs Tryd.underlying40 Tryd.underlying123 Tryd.cellsLane rfl rfl rfl rfl Tryd.underlying3 Tryd.cellsInt Tryd.bytesLane h5 (fun x hx => hw x (by simp [DataW.weights, DataW.weightsEach, Tryd.underlying43, hx]))
  obtain ⟨ca, cc, l2, rfl, b1, b2, b3, b4⟩ := view_pairs Tryd.underlying41 Tryd.underlying125 Tryd.cellsCabin rfl rfl rfl rfl Tryd.underlying3 Tryd.cellsInt Tryd.bytesCabin h6 (fun x hx => hw x (by simp [DataW.weights, DataW.weightsEach, Tryd.underlying43, hx]))
  have w1 : s1.size ≤ reachBytes := hw s1.size (by rw [x1]; simp [DataW.weights, DataW.weightsEach, Tryd.underlying43])
  have w2 : s2.size ≤ reachBytes := hw s2.size (by rw [x2]; simp [DataW.weights, DataW.weightsEach, Tryd.underlying43])
  simp at e0 e1 e2 e3 e4 e7
  subst e0 e1 e2 e3 e4 e7
  unfold reachBytes at a4 b4 w1 w2
  exact ⟨⟨i0, s1, s2, i3, i4, l1, l2, i7⟩, la, lc, ca, cc, rfl, a1, b1, ⟨a2, by omega, a3⟩, ⟨b2, by omega, b3⟩, ⟨by show s1.size ≤ _; omega, by show s2.size ≤ _; omega, by show l1.n ≤ _; omega, by show l2.n ≤ _; omega⟩⟩

set_option maxRecDepth 100000 in
/-- A sailing that came in by value, opened. -/
theorem open_sailing {H : Type} {enc : TypeId × Value → H} {W : World} {base : Nat} {v : Value} {d : DataW H} {p : List MemPlace} (hv : Value.okWide Tryd.prog W .any base 43 v)
    (h : DataW.Trod enc Tryd.prog W 0 (fun _ => true) true 43 v d p) (hw : ∀ x ∈ DataW.weights Tryd.prog 43 d, x ≤ reachBytes) :
    ∃ x d' a mo fr tt lo co c1 c2 l1 l2, v = .agg #[.int .i64 x, .string fr, .string tt, .int .i64 d', .int .i64 a, .slice lo l1.n c1, .slice co l2.n c2, .int .i64 mo] ∧ PairsAt W lo l1 ∧ PairsAt W co l2 ∧ ShortS ⟨x, fr, tt, d', a, l1, l2, mo⟩ 1000000000000000 := by
  obtain ⟨cs, rfl, hsz⟩ := okWide_struct Tryd.underlying43 hv
  obtain ⟨fuel, hf⟩ := h
  obtain ⟨s, la, lc, ca, cc, e, h1, h2, h3, h4, h5⟩ := view_sail hf hw
  have e2 : cs.toList = [.int .i64 s.id, .string s.fr, .string s.dst, .int .i64 s.dep, .int .i64 s.arr, .slice la s.la.n lc, .slice ca s.ca.n cc, .int .i64 s.most] := by simpa [Value.cells] using e
  have e3 : cs = #[.int .i64 s.id, .string s.fr, .string s.dst, .int .i64 s.dep, .int .i64 s.arr, .slice la s.la.n lc, .slice ca s.ca.n cc, .int .i64 s.most] := by
    cases cs
    simpa using e2
  exact ⟨s.id, s.dep, s.arr, s.most, s.fr, s.dst, la, ca, lc, cc, s.la, s.ca, by rw [e3], h1, h2, h5⟩

end Go.Proofs.YtfbooamjddnagaaDoor
