/-
  OWN TEXT: ViewSail, ViewSails, ViewSl, ViewStay.
-/
import Derived.Test.YtlelckbeoclhbaaGreatB36
import Derived.Test.YtlelckbeoclhbaaGreatB31
import Derived.Test.YtlelckbeoclhbaaGreatB32
import Derived.Test.YtlelckbeoclhbaaGreatB09
set_option maxHeartbeats 12800000
set_option maxRecDepth 100000
namespace Go.Proofs.YtlelckbeoclhbaaGreat
open Go.ChangeShapes Go.WideShapes Go.ChangeAt Go.RowKit Go.Deep Go.Joins
section
variable {H : Type} {enc : TypeId × Value → H} {P : Program} {w : World} {base : Nat} {spare : Nat → Bool} {held : Bool}
theorem trod_struct8 {t : TypeId} {f0 f1 f2 f3 f4 f5 f6 f7 : Field} {fuel : Nat} {cs : List Value} {x : DataW H × List MemPlace} (ht : P.underlying t = some (.struct #[f0, f1, f2, f3, f4, f5, f6, f7])) (h : DataW.trod enc P w base spare held fuel t cs = some x) :
    ∃ y0 y1 y2 y3 y4 y5 y6 y7 n, x.1 = .agg [y0.1, y1.1, y2.1, y3.1, y4.1, y5.1, y6.1, y7.1] ∧ cs.length = P.cellsOf t ∧ DataW.trod enc P w base spare held n f0.type ((cs.drop f0.offset).take (P.cellsOf f0.type)) = some y0 ∧
      DataW.trod enc P w base spare held n f1.type ((cs.drop f1.offset).take (P.cellsOf f1.type)) = some y1 ∧ DataW.trod enc P w base spare held n f2.type ((cs.drop f2.offset).take (P.cellsOf f2.type)) = some y2 ∧
      DataW.trod enc P w base spare held n f3.type ((cs.drop f3.offset).take (P.cellsOf f3.type)) = some y3 ∧ DataW.trod enc P w base spare held n f4.type ((cs.drop f4.offset).take (P.cellsOf f4.type)) = some y4 ∧
      DataW.trod enc P w base spare held n f5.type ((cs.drop f5.offset).take (P.cellsOf f5.type)) = some y5 ∧ DataW.trod enc P w base spare held n f6.type ((cs.drop f6.offset).take (P.cellsOf f6.type)) = some y6 ∧
      DataW.trod enc P w base spare held n f7.type ((cs.drop f7.offset).take (P.cellsOf f7.type)) = some y7 := by
  obtain ⟨xs, n, _, rfl, hl, hlen, hf⟩ := DataW.trod_struct ht h
  match xs, hlen with
  | [y0, y1, y2, y3, y4, y5, y6, y7], _ => exact ⟨y0, y1, y2, y3, y4, y5, y6, y7, n, by simp, hl, by simpa using hf 0 f0 rfl, by simpa using hf 1 f1 rfl, by simpa using hf 2 f2 rfl, by simpa using hf 3 f3 rfl, by simpa using hf 4 f4 rfl, by simpa using hf 5 f5 rfl, by simpa using hf 6 f6 rfl, by simpa using hf 7 f7 rfl⟩
theorem list8 {α : Type} {cs : List α} (h : cs.length = 8) : ∃ c0 c1 c2 c3 c4 c5 c6 c7, cs = [c0, c1, c2, c3, c4, c5, c6, c7] := by
  match cs, h with
  | [c0, c1, c2, c3, c4, c5, c6, c7], _ => exact ⟨c0, c1, c2, c3, c4, c5, c6, c7, rfl⟩
end
theorem Tryz.cellsSailing : Tryz.prog.cellsOf 95 = 8 := by kernel_rfl
theorem Tryz.cellsLane : Tryz.prog.cellsOf 193 = 2 := by kernel_rfl
theorem Tryz.cellsLaneS : Tryz.prog.cellsOf 92 = 1 := by kernel_rfl
theorem Tryz.cellsCabin : Tryz.prog.cellsOf 195 = 2 := by kernel_rfl
theorem Tryz.cellsCabinS : Tryz.prog.cellsOf 93 = 1 := by kernel_rfl
theorem Tryz.cellsStr : Tryz.prog.cellsOf 9 = 1 := by kernel_rfl
theorem Tryz.bytesLane : Tryz.prog.bytesOf 193 = 16 := by kernel_rfl
theorem Tryz.bytesCabin : Tryz.prog.bytesOf 195 = 16 := by kernel_rfl
theorem view_sail {H : Type} {enc : TypeId × Value → H} {W : World} {base fuel : Nat} {held : Bool} {cs : List Value} {x : DataW H × List MemPlace}
    (h : DataW.trod enc Tryz.prog W base (fun _ => true) held fuel 95 cs = some x) (hw : ∀ y ∈ DataW.weights Tryz.prog 95 x.1, y ≤ reachBytes) :
    ∃ (s : Sail) (la : Option Addr) (lc : Nat) (ca : Option Addr) (cc : Nat), cs = [.int .i64 s.id, .string s.fr, .string s.dst, .int .i64 s.dep, .int .i64 s.arr, .slice la s.la.n lc, .slice ca s.ca.n cc, .int .i64 s.most] ∧
      PairsAt W la s.la ∧ PairsAt W ca s.ca ∧ SliceOk la s.la.n lc ∧ SliceOk ca s.ca.n cc ∧ ShortS s 1000000000000000 := by
  obtain ⟨y0, y1, y2, y3, y4, y5, y6, y7, n, hx, hl, h0, h1, h2, h3, h4, h5, h6, h7⟩ := trod_struct8 Tryz.underlying95 h
  rw [hx] at hw
  rw [Tryz.cellsSailing] at hl
  obtain ⟨c0, c1, c2, c3, c4, c5, c6, c7, rfl⟩ := list8 hl
  simp only [Tryz.cellsInt, Tryz.cellsStr, Tryz.cellsLaneS, Tryz.cellsCabinS, List.drop, List.take] at h0 h1 h2 h3 h4 h5 h6 h7
  obtain ⟨i0, e0, _, _⟩ := DataW.trod_int Tryz.underlying3 h0
  obtain ⟨s1, e1, x1, _⟩ := DataW.trod_string Tryz.underlying9 h1
  obtain ⟨s2, e2, x2, _⟩ := DataW.trod_string Tryz.underlying9 h2
  obtain ⟨i3, e3, _, _⟩ := DataW.trod_int Tryz.underlying3 h3
  obtain ⟨i4, e4, _, _⟩ := DataW.trod_int Tryz.underlying3 h4
  obtain ⟨i7, e7, _, _⟩ := DataW.trod_int Tryz.underlying3 h7
  obtain ⟨la, lc, l1, rfl, a1, a2, a3, a4⟩ := view_pairs Tryz.underlying92 Tryz.underlying193 Tryz.cellsLane rfl rfl rfl rfl Tryz.underlying3 Tryz.cellsInt Tryz.bytesLane h5 (fun x hx => hw x (by simp [DataW.weights, DataW.weightsEach, Tryz.underlying95, hx]))
  obtain ⟨ca, cc, l2, rfl, b1, b2, b3, b4⟩ := view_pairs Tryz.underlying93 Tryz.underlying195 Tryz.cellsCabin rfl rfl rfl rfl Tryz.underlying3 Tryz.cellsInt Tryz.bytesCabin h6 (fun x hx => hw x (by simp [DataW.weights, DataW.weightsEach, Tryz.underlying95, hx]))
  have w1 : s1.size ≤ reachBytes := hw s1.size (by rw [x1]; simp [DataW.weights, DataW.weightsEach, Tryz.underlying95])
  have w2 : s2.size ≤ reachBytes := hw s2.size (by rw [x2]; simp [DataW.weights, DataW.weightsEach, Tryz.underlying95])
  simp at e0 e1 e2 e3 e4 e7
  subst e0 e1 e2 e3 e4 e7
  unfold reachBytes at a4 b4 w1 w2
  exact ⟨⟨i0, s1, s2, i3, i4, l1, l2, i7⟩, la, lc, ca, cc, rfl, a1, b1, ⟨a2, by omega, a3⟩, ⟨b2, by omega, b3⟩, ⟨by show s1.size ≤ _; omega, by show s2.size ≤ _; omega, by show l1.n ≤ _; omega, by show l2.n ≤ _; omega⟩⟩
theorem open_sailing {H : Type} {enc : TypeId × Value → H} {W : World} {base : Nat} {v : Value} {d : DataW H} {p : List MemPlace} (hv : Value.okWide Tryz.prog W .any base 95 v)
    (h : DataW.Trod enc Tryz.prog W 0 (fun _ => true) true 95 v d p) (hw : ∀ x ∈ DataW.weights Tryz.prog 95 d, x ≤ reachBytes) :
    ∃ x d' a mo fr tt lo co c1 c2 l1 l2, v = .agg #[.int .i64 x, .string fr, .string tt, .int .i64 d', .int .i64 a, .slice lo l1.n c1, .slice co l2.n c2, .int .i64 mo] ∧ PairsAt W lo l1 ∧ PairsAt W co l2 ∧ ShortS ⟨x, fr, tt, d', a, l1, l2, mo⟩ 1000000000000000 := by
  obtain ⟨cs, rfl, hsz⟩ := okWide_struct Tryz.underlying95 hv
  obtain ⟨fuel, hf⟩ := h
  obtain ⟨s, la, lc, ca, cc, e, h1, h2, h3, h4, h5⟩ := view_sail hf hw
  have e2 : cs.toList = [.int .i64 s.id, .string s.fr, .string s.dst, .int .i64 s.dep, .int .i64 s.arr, .slice la s.la.n lc, .slice ca s.ca.n cc, .int .i64 s.most] := by simpa [Value.cells] using e
  have e3 : cs = #[.int .i64 s.id, .string s.fr, .string s.dst, .int .i64 s.dep, .int .i64 s.arr, .slice la s.la.n lc, .slice ca s.ca.n cc, .int .i64 s.most] := by
    cases cs
    simpa using e2
  exact ⟨s.id, s.dep, s.arr, s.most, s.fr, s.dst, la, ca, lc, cc, s.la, s.ca, by rw [e3], h1, h2, h5⟩
end Go.Proofs.YtlelckbeoclhbaaGreat

namespace Go.Proofs.YtlelckbeoclhbaaGreat
open Go.ChangeShapes Go.WideShapes Go.ChangeAt Go.RowKit Go.Deep Go.Joins
theorem Tryz.bytesSailing : Tryz.prog.bytesOf 95 = 112 := by kernel_rfl
theorem open_sails {H : Type} {enc : TypeId × Value → H} {W : World} {base : Nat} {v : Value} {d : DataW H} {p : List MemPlace} (hv : Value.okWide Tryz.prog W .any base 22 v)
    (h : DataW.Trod enc Tryz.prog W 0 (fun _ => true) true 22 v d p) (hw : ∀ x ∈ DataW.weights Tryz.prog 22 d, x ≤ reachBytes) :
    ∃ ao N cap S, v = .slice ao N cap ∧ N ≤ 1000000000000000 ∧ ShortAll N S 1000000000000000 ∧ SailsAt W ao N S := by
  obtain ⟨fuel, hf⟩ := h
  rw [okWide_slice_is Tryz.underlying22 hv] at hf
  rcases open_slice Tryz.underlying22 hf with ⟨hcs, hx⟩ | ⟨a, n, cap, m, fl, D, Pl, hcs, _, hl, hm, hmm, hx, hcell⟩
  · simp at hcs
    subst hcs
    exact ⟨none, 0, 0, fun _ => Sail.zero, rfl, by omega, fun i hi => by omega, fun i hi => by omega⟩
  · simp at hcs
    subst hcs
    rw [if_pos rfl] at hmm
    subst hmm
    simp only [Prod.mk.injEq] at hx
    obtain ⟨rfl, rfl⟩ := hx
    have hcap : m * 112 ≤ reachBytes := by
      have := hw ((n + (m - n)) * Tryz.prog.bytesOf 95) (by simp [DataW.weights, Tryz.underlying22])
      rw [Tryz.bytesSailing, show n + (m - n) = m by omega] at this
      exact this
    unfold reachBytes at hcap
    by_cases hn0 : n = 0
    · subst hn0
      exact ⟨some a, 0, m, fun _ => Sail.zero, rfl, by omega, fun i hi => by omega, fun i hi => by omega⟩
    have hspot : a.spot = none := by
      obtain ⟨cs, hcl, _⟩ := hcell 0 (by omega)
      rw [Tryz.cellsSailing] at hcl
      obtain ⟨_, hlen, hget⟩ := World.cells?_some hcl
      have g0 := hget 0 (by omega)
      rw [List.getElem?_eq_getElem (by omega)] at g0
      have := World.cell?_spot g0
      simpa [Addr.add] using this
    obtain ⟨b, off, spot⟩ := a
    simp only at hspot
    subst hspot
    have key : ∀ k, k < n → ∃ (s : Sail), ShortS s 1000000000000000 ∧ ∃ la lc ca cc, W.cell? ⟨b, off + k * 8, none⟩ = some (.int .i64 s.id) ∧ W.cell? ⟨b, off + k * 8 + 1, none⟩ = some (.string s.fr) ∧
        W.cell? ⟨b, off + k * 8 + 2, none⟩ = some (.string s.dst) ∧ W.cell? ⟨b, off + k * 8 + 3, none⟩ = some (.int .i64 s.dep) ∧ W.cell? ⟨b, off + k * 8 + 4, none⟩ = some (.int .i64 s.arr) ∧
        W.cell? ⟨b, off + k * 8 + 5, none⟩ = some (.slice la s.la.n lc) ∧ W.cell? ⟨b, off + k * 8 + 6, none⟩ = some (.slice ca s.ca.n cc) ∧ W.cell? ⟨b, off + k * 8 + 7, none⟩ = some (.int .i64 s.most) ∧
        PairsAt W la s.la ∧ PairsAt W ca s.ca ∧ SliceOk la s.la.n lc ∧ SliceOk ca s.ca.n cc := by
      intro k hk
      obtain ⟨cs, hcl, htr⟩ := hcell k (by omega)
      have hwk : ∀ x ∈ DataW.weights Tryz.prog 95 (D k), x ≤ reachBytes := by
        intro x hx
        refine hw x ?_
        have : D k ∈ (List.range n).map D := List.mem_map.2 ⟨k, List.mem_range.2 hk, rfl⟩
        have := weightsAll_mem this hx
        simp [DataW.weights, Tryz.underlying22, this]
      rw [Tryz.cellsSailing] at hcl
      obtain ⟨_, hlen, hget⟩ := World.cells?_some hcl
      obtain ⟨s, la, lc, ca, cc, rfl, h1, h2, h3, h4, h5⟩ := view_sail htr hwk
      have g0 := hget 0 (by omega)
      have g1 := hget 1 (by omega)
      have g2 := hget 2 (by omega)
      have g3 := hget 3 (by omega)
      have g4 := hget 4 (by omega)
      have g5 := hget 5 (by omega)
      have g6 := hget 6 (by omega)
      have g7 := hget 7 (by omega)
      simp only [List.getElem?_cons_zero, List.getElem?_cons_succ, Addr.add_lit, Nat.add_zero] at g0 g1 g2 g3 g4 g5 g6 g7
      exact ⟨s, h5, la, lc, ca, cc, g0, g1, g2, g3, g4, g5, g6, g7, h1, h2, h3, h4⟩
    obtain ⟨f, hf⟩ := choose_lt key
    refine ⟨some ⟨b, off, none⟩, n, m, f, rfl, by omega, fun k hk => (hf k hk).1, fun k hk => ?_⟩
    obtain ⟨la, lc, ca, cc, g⟩ := (hf k hk).2
    exact ⟨b, off, la, lc, ca, cc, rfl, g⟩
end Go.Proofs.YtlelckbeoclhbaaGreat

namespace Go.Proofs.YtlelckbeoclhbaaGreat
open Go.ChangeShapes Go.WideShapes Go.ChangeAt Go.RowKit Go.Deep Go.Joins
theorem view_sails {H : Type} {enc : TypeId × Value → H} {W : World} {base fuel : Nat} {held : Bool} {v : Value} {x : DataW H × List MemPlace}
    (h : DataW.trod enc Tryz.prog W base (fun _ => true) held fuel 22 [v] = some x) (hw : ∀ y ∈ DataW.weights Tryz.prog 22 x.1, y ≤ reachBytes) :
    ∃ ao n cap S, v = .slice ao n cap ∧ SailsAt W ao n S ∧ SliceOk ao n cap ∧ ShortAll n S 1000000000000000 ∧ n ≤ 1000000000000000 := by
  obtain ⟨ao, n, cap, C, rfl, hr, hl, hn, hb, hk⟩ := view_list Tryz.underlying22 Tryz.cellsSailing (by omega) Tryz.bytesSailing h hw
  have key : ∀ k, k < n → ∃ s : Sail, ShortS s 1000000000000000 ∧ ∃ (la : Option Addr) (lc : Nat) (ca : Option Addr) (cc : Nat), C k = [.int .i64 s.id, .string s.fr, .string s.dst, .int .i64 s.dep, .int .i64 s.arr, .slice la s.la.n lc, .slice ca s.ca.n cc, .int .i64 s.most] ∧
      PairsAt W la s.la ∧ PairsAt W ca s.ca ∧ SliceOk la s.la.n lc ∧ SliceOk ca s.ca.n cc := by
    intro k hk'
    obtain ⟨_, fl, z, ht, hz⟩ := hk k hk'
    obtain ⟨s, la, lc, ca, cc, e, h1, h2, h3, h4, h5⟩ := view_sail ht hz
    exact ⟨s, h5, la, lc, ca, cc, e, h1, h2, h3, h4⟩
  obtain ⟨S, hS⟩ := choose_lt key
  refine ⟨ao, n, cap, S, rfl, fun k hk' => ?_, ⟨hl, by unfold reachBytes at hb; omega, hn⟩, fun k hk' => (hS k hk').1, by unfold reachBytes at hb; omega⟩
  obtain ⟨b, off, e, hc⟩ := hr k hk'
  obtain ⟨_, la, lc, ca, cc, e2, h1, h2, h3, h4⟩ := hS k hk'
  rw [e2] at hc
  exact ⟨b, off, la, lc, ca, cc, e, hc 0 (by omega), hc 1 (by omega), hc 2 (by omega), hc 3 (by omega), hc 4 (by omega), hc 5 (by omega), hc 6 (by omega), hc 7 (by omega), h1, h2, h3, h4⟩
end Go.Proofs.YtlelckbeoclhbaaGreat

namespace Go.Proofs.YtlelckbeoclhbaaGreat
open Go.ChangeShapes Go.WideShapes Go.ChangeAt Go.RowKit Go.Deep Go.Joins
theorem Tryz.cellsStay : Tryz.prog.cellsOf 197 = 4 := by kernel_rfl
theorem Tryz.bytesStay : Tryz.prog.bytesOf 197 = 32 := by kernel_rfl
theorem trod_struct_stay {H : Type} {enc : TypeId × Value → H} {P : Program} {w : World} {base : Nat} {spare : Nat → Bool} {held : Bool} {t : TypeId} {f0 f1 f2 f3 : Field} {fuel : Nat} {cs : List Value} {x : DataW H × List MemPlace} (ht : P.underlying t = some (.struct #[f0, f1, f2, f3])) (h : DataW.trod enc P w base spare held fuel t cs = some x) :
    ∃ y0 y1 y2 y3 n, DataW.trod enc P w base spare held n f0.type ((cs.drop f0.offset).take (P.cellsOf f0.type)) = some y0 ∧ DataW.trod enc P w base spare held n f1.type ((cs.drop f1.offset).take (P.cellsOf f1.type)) = some y1 ∧ DataW.trod enc P w base spare held n f2.type ((cs.drop f2.offset).take (P.cellsOf f2.type)) = some y2 ∧ DataW.trod enc P w base spare held n f3.type ((cs.drop f3.offset).take (P.cellsOf f3.type)) = some y3 := by
  obtain ⟨xs, n, _, rfl, hl, hlen, hf⟩ := DataW.trod_struct ht h
  match xs, hlen with
  | [y0, y1, y2, y3], _ => exact ⟨y0, y1, y2, y3, n, by simpa using hf 0 f0 rfl, by simpa using hf 1 f1 rfl, by simpa using hf 2 f2 rfl, by simpa using hf 3 f3 rfl⟩
theorem open_stays {H : Type} {enc : TypeId × Value → H} {W : World} {base : Nat} {v : Value} {d : DataW H} {p : List MemPlace} (hv : Value.okWide Tryz.prog W .any base 97 v)
    (h : DataW.Trod enc Tryz.prog W 0 (fun _ => true) true 97 v d p) (hw : ∀ x ∈ DataW.weights Tryz.prog 97 d, x ≤ reachBytes) :
    ∃ ao n cap S, v = .slice ao n cap ∧ n ≤ 1000000000000000 ∧ StaysAt W ao n S := by
  obtain ⟨fuel, hf⟩ := h
  rw [okWide_slice_is Tryz.underlying97 hv] at hf
  rcases open_slice Tryz.underlying97 hf with ⟨hcs, hx⟩ | ⟨a, n, cap, q, fl, D, Pl, hcs, _, hl, hm, hmm, hx, hcell⟩
  · simp at hcs
    subst hcs
    exact ⟨none, 0, 0, fun _ => Stay.zero, rfl, by omega, fun i hi => by omega⟩
  · simp at hcs
    subst hcs
    rw [if_pos rfl] at hmm
    subst hmm
    simp only [Prod.mk.injEq] at hx
    obtain ⟨rfl, rfl⟩ := hx
    have hcap : q * 32 ≤ reachBytes := by
      have := hw ((n + (q - n)) * Tryz.prog.bytesOf 197) (by simp [DataW.weights, Tryz.underlying97])
      rw [Tryz.bytesStay, show n + (q - n) = q by omega] at this
      exact this
    unfold reachBytes at hcap
    by_cases hn0 : n = 0
    · subst hn0
      exact ⟨some a, 0, q, fun _ => Stay.zero, rfl, by omega, fun i hi => by omega⟩
    have hspot : a.spot = none := by
      obtain ⟨cs, hcl, _⟩ := hcell 0 (by omega)
      rw [Tryz.cellsStay] at hcl
      obtain ⟨_, hlen, hget⟩ := World.cells?_some hcl
      have g0 := hget 0 (by omega)
      rw [List.getElem?_eq_getElem (by omega)] at g0
      have := World.cell?_spot g0
      simpa [Addr.add] using this
    obtain ⟨b, off, spot⟩ := a
    simp only at hspot
    subst hspot
    have key : ∀ k, k < n → ∃ (y : Stay), W.cell? ⟨b, off + k * 4, none⟩ = some (.int .i64 y.who) ∧ W.cell? ⟨b, off + k * 4 + 1, none⟩ = some (.int .i64 y.ln) ∧ W.cell? ⟨b, off + k * 4 + 2, none⟩ = some (.int .i64 y.len) ∧ W.cell? ⟨b, off + k * 4 + 3, none⟩ = some (.int .i64 y.hei) := by
      intro k hk
      obtain ⟨cs, hcl, htr⟩ := hcell k (by omega)
      rw [Tryz.cellsStay] at hcl
      obtain ⟨_, hlen, hget⟩ := World.cells?_some hcl
      obtain ⟨y0, y1, y2, y3, n', h0, h1, h2, h3⟩ := trod_struct_stay Tryz.underlying197 htr
      simp only [Tryz.cellsInt] at h0 h1 h2 h3
      match cs, hlen with
      | [p0, p1, p2, p3], _ =>
        obtain ⟨i0, e0, _, _⟩ := DataW.trod_int Tryz.underlying3 h0
        obtain ⟨i1, e1, _, _⟩ := DataW.trod_int Tryz.underlying3 h1
        obtain ⟨i2, e2, _, _⟩ := DataW.trod_int Tryz.underlying3 h2
        obtain ⟨i3, e3, _, _⟩ := DataW.trod_int Tryz.underlying3 h3
        simp at e0 e1 e2 e3
        subst e0 e1 e2 e3
        have g0 := hget 0 (by omega)
        have g1 := hget 1 (by omega)
        have g2 := hget 2 (by omega)
        have g3 := hget 3 (by omega)
        simp only [List.getElem?_cons_zero, List.getElem?_cons_succ, Addr.add_lit, Nat.add_zero] at g0 g1 g2 g3
        exact ⟨⟨i0, i1, i2, i3⟩, g0, g1, g2, g3⟩
    obtain ⟨f, hf⟩ := choose_lt key
    exact ⟨some ⟨b, off, none⟩, n, q, f, rfl, by omega, fun k hk => ⟨b, off, rfl, hf k hk⟩⟩
end Go.Proofs.YtlelckbeoclhbaaGreat
