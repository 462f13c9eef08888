/-
  OWN TEXT: ViewP, ViewStr, LaidF, LaidT.
-/
import Derived.Test.YtfbooamjddnagaaDoorRows
import Derived.ProofKit
import Derived.OpenShut
import Derived.LaidMore
import Derived.WalkSmall
import Derived.Lib.LaidTab
import Derived.Deep.DeepHandedRow
import Derived.Test.YtfbooamjddnagaaDoorXSail09
import Derived.Test.YtfbooamjddnagaaDoorB02
import Derived.Test.YtfbooamjddnagaaDoorB08
import Derived.Test.YtfbooamjddnagaaDoorB22
namespace Go.Proofs.YtfbooamjddnagaaDoor
open Go.ChangeShapes Go.WideShapes Go.ChangeAt Go.RowKit Go.Deep Go.Joins

section
variable {H : Type} {enc : TypeId × Value → H} {P : Program} {w : World} {base : Nat} {spare : Nat → Bool} {held : Bool}

theorem view_pairs {t e fuel ti bytes : Nat} {f0 f1 : Field} {v : Value} {x : DataW H × List MemPlace} (ht : P.underlying t = some (.slice e)) (he : P.underlying e = some (.struct #[f0, f1])) (hc : P.cellsOf e = 2)
    (t0 : f0.type = ti) (t1 : f1.type = ti) (o0 : f0.offset = 0) (o1 : f1.offset = 1)
    (hi : P.underlying ti = some (.int .i64)) (ci : P.cellsOf ti = 1) (hby : P.bytesOf e = bytes)
    (h : DataW.trod enc P w base (fun _ => true) held fuel t [v] = some x) (hw : ∀ y ∈ DataW.weights P t x.1, y ≤ reachBytes) :
    ∃ ao cap l, v = .slice ao l.n cap ∧ PairsAt w ao l ∧ l.n ≤ cap ∧ (ao = none → l.n = 0 ∧ cap = 0) ∧ cap * bytes ≤ reachBytes := by
  rcases open_slice ht h with ⟨hcs, hx⟩ | ⟨a, n, cap, m, fl, D, Pl, hcs, _, hl, hm, hmm, hx, hcell⟩
  · simp at hcs
    subst hcs
    exact ⟨none, 0, ⟨0, fun _ => 0, fun _ => 0⟩, rfl, fun k hk => absurd hk (Nat.not_lt_zero _), Nat.le_refl _, fun _ => ⟨rfl, rfl⟩, by omega⟩
  · simp at hcs
    subst hcs
    rw [if_pos rfl] at hmm
    subst hmm
    have hcap : m * bytes ≤ reachBytes := by
      have := hw ((n + (m - n)) * P.bytesOf e) (by rw [hx]; simp [DataW.weights, ht])
      rw [hby, show n + (m - n) = m by omega] at this
      exact this
    by_cases hn0 : n = 0
    · subst hn0
      exact ⟨some a, m, ⟨0, fun _ => 0, fun _ => 0⟩, rfl, fun k hk => absurd hk (Nat.not_lt_zero _), hl, (fun h => by cases h), hcap⟩
    have hspot : a.spot = none := by
      obtain ⟨cs, hcl, _⟩ := hcell 0 (by omega)
      rw [hc] at hcl
      obtain ⟨_, hlen, hget⟩ := World.cells?_some hcl
      have g0 := hget 0 (by omega)
      rw [List.getElem?_eq_getElem (by omega)] at g0
      have := World.cell?_spot g0
      simpa [Addr.add] using this
    obtain ⟨b, off, spot⟩ := a
    simp only at hspot
    subst hspot
    have key : ∀ k, k < n → ∃ (y : Int × Int), w.cell? ⟨b, off + k * 2, none⟩ = some (.int .i64 y.1) ∧ w.cell? ⟨b, off + k * 2 + 1, none⟩ = some (.int .i64 y.2) := by
      intro k hk
      obtain ⟨cs, hcl, htr⟩ := hcell k (by omega)
      rw [hc] at hcl
      obtain ⟨_, hlen, hget⟩ := World.cells?_some hcl
      obtain ⟨y0, y1, n', _, _, h0, h1⟩ := trod_struct2 he htr
      rw [t0, o0, ci] at h0
      rw [t1, o1, ci] at h1
      match cs, hlen with
      | [p, q], _ =>
        obtain ⟨i0, e0, _, _⟩ := DataW.trod_int hi h0
        obtain ⟨i1, e1, _, _⟩ := DataW.trod_int hi h1
        simp at e0 e1
        subst e0 e1
        have g0 := hget 0 (by omega)
        have g1 := hget 1 (by omega)
        simp only [List.getElem?_cons_zero, List.getElem?_cons_succ, Addr.add_lit, Nat.add_zero] at g0 g1
        exact ⟨(i0, i1), g0, g1⟩
    obtain ⟨f, hf⟩ := choose_lt key
    exact ⟨some ⟨b, off, none⟩, m, ⟨n, fun k => (f k).1, fun k => (f k).2⟩, rfl, fun k hk => ⟨b, off, rfl, hf k hk⟩, hl, (fun h => by cases h), hcap⟩
end

theorem Tryd.own : ownKnob Tryd.prog.godebug = none := by kernel_rfl
theorem Tryd.laidOut : laidOutB Tryd.prog = true := by kernel_rfl
theorem Tryd.cellsInt : Tryd.prog.cellsOf 3 = 1 := by kernel_rfl
theorem Tryd.cellsBool : Tryd.prog.cellsOf 4 = 1 := by kernel_rfl
theorem okWide_slice_is {P : Program} {t e : Nat} {w : World} {r : Reach} {base : Nat} {v : Value} (ht : P.underlying t = some (.slice e)) (h : Value.okWide P w r base t v) : v.cells.toList = [v] := by
  simp only [Value.okWide, ht, Cell.okWide] at h
  cases v <;> simp_all [Cell.ok, Value.cells]

end Go.Proofs.YtfbooamjddnagaaDoor

namespace Go.Proofs.YtfbooamjddnagaaDoor
open Go.ChangeShapes Go.WideShapes Go.ChangeAt Go.RowKit Go.Deep Go.Joins

set_option maxRecDepth 100000 in
theorem open_text {H : Type} {enc : TypeId × Value → H} {W : World} {base : Nat} {v : Value} {d : DataW H} {p : List MemPlace} (hv : Value.okWide Tryd.prog W .any base 9 v)
    (h : DataW.Trod enc Tryd.prog W 0 (fun _ => true) true 9 v d p) (hw : ∀ x ∈ DataW.weights Tryd.prog 9 d, x ≤ reachBytes) :
    ∃ s, v = .string s ∧ s.size ≤ 1000000000000000 := by
  obtain ⟨s, rfl⟩ := okWide_string Tryd.underlying9 hv
  obtain ⟨fuel, hf⟩ := h
  obtain ⟨s1, e1, x1, _⟩ := DataW.trod_string Tryd.underlying9 hf
  simp [Value.cells] at e1
  subst e1
  obtain ⟨rfl, rfl⟩ := Prod.mk.inj x1
  have w1 : s.size ≤ reachBytes := hw s.size (by simp [DataW.weights])
  exact ⟨s, rfl, by unfold reachBytes at w1; omega⟩

end Go.Proofs.YtfbooamjddnagaaDoor

namespace Go.Proofs.YtfbooamjddnagaaDoor
open Go.ChangeShapes Go.WideShapes Go.ChangeAt Go.RowKit

theorem Tryd.gForms : Tryd.prog.globalNamed "loop.example/g00084/impl.opForms" = some 0 := by kernel_rfl
theorem Tryd.gFormsType : (Tryd.prog.globals[0]?).map (·.type) = some 101 := by kernel_rfl
theorem Tryd.cellsF10 : Tryd.prog.cellsOf 101 = 70 := by kernel_rfl
theorem Tryd.cellsForm : Tryd.prog.cellsOf 100 = 7 := by kernel_rfl
theorem Tryd.cellsInt1 : Tryd.prog.cellsOf 3 = 1 := by kernel_rfl
theorem Tryd.cellsBool1 : Tryd.prog.cellsOf 4 = 1 := by kernel_rfl

set_option maxHeartbeats 1600000 in
set_option maxRecDepth 100000 in
/-- A form read as its seven fields is those seven cells. -/
theorem form_of {H : Type} {enc : TypeId × Value → H} {W : World} {base : Nat} {spare : Nat → Bool} {held : Bool} {m : Nat} {l : List Value} {x : DataW H × List MemPlace} {a0 a1 : Bool} {i : Int} {a3 a4 a5 a6 : Bool}
    (h : DataW.trod enc Tryd.prog W base spare held m 100 l = some x) (hx : x.1 = .agg [.lit (.bool a0), .lit (.bool a1), .lit (.int .i64 i), .lit (.bool a3), .lit (.bool a4), .lit (.bool a5), .lit (.bool a6)]) :
    l = [.bool a0, .bool a1, .int .i64 i, .bool a3, .bool a4, .bool a5, .bool a6] := by
  obtain ⟨xs, n, _, rfl, hl, hlen, hf⟩ := DataW.trod_struct Tryd.underlying100 h
  rw [Tryd.cellsForm] at hl
  match xs, hlen, l, hl with
  | [y0, y1, y2, y3, y4, y5, y6], _, [c0, c1, c2, c3, c4, c5, c6], _ =>
    have g0 := hf 0 _ rfl
    have g1 := hf 1 _ rfl
    have g2 := hf 2 _ rfl
    have g3 := hf 3 _ rfl
    have g4 := hf 4 _ rfl
    have g5 := hf 5 _ rfl
    have g6 := hf 6 _ rfl
    simp [Tryd.cellsInt1, Tryd.cellsBool1] at g0 g1 g2 g3 g4 g5 g6
    obtain ⟨k0, e0, p0⟩ := DataW.trod_bool Tryd.underlying4 g0
    obtain ⟨k1, e1, p1⟩ := DataW.trod_bool Tryd.underlying4 g1
    obtain ⟨k2, e2, p2, _⟩ := DataW.trod_int Tryd.underlying3 g2
    obtain ⟨k3, e3, p3⟩ := DataW.trod_bool Tryd.underlying4 g3
    obtain ⟨k4, e4, p4⟩ := DataW.trod_bool Tryd.underlying4 g4
    obtain ⟨k5, e5, p5⟩ := DataW.trod_bool Tryd.underlying4 g5
    obtain ⟨k6, e6, p6⟩ := DataW.trod_bool Tryd.underlying4 g6
    simp [p0, p1, p2, p3, p4, p5, p6] at hx
    simp at e0 e1 e2 e3 e4 e5 e6
    obtain ⟨rfl, rfl, rfl, rfl, rfl, rfl, rfl⟩ := hx
    rw [e0, e1, e2, e3, e4, e5, e6]

theorem row_cell {l : List Value} {k j : Nat} (hj : j < 7) (r : List Value) (h : (l.drop (k * 7)).take 7 = r) : l[k * 7 + j]? = r[j]? := by
  rw [← h, List.getElem?_take, if_pos hj, List.getElem?_drop]

set_option maxHeartbeats 3200000 in
set_option maxRecDepth 100000 in
theorem forms_of {H : Type} {enc : TypeId × Value → H} {W : World} {base : Nat} {spare : Nat → Bool} {held : Bool} {fuel : Nat} {p : List MemPlace} {cs : Array Value}
    (hv : W.var? Tryd.prog "loop.example/g00084/impl.opForms" = some cs)
    (hd : DataW.trod enc Tryd.prog W base spare held fuel 101 cs.toList = some (Rows.laid_loop_example_g00084_impl_opForms, p)) : FormsAt W := by
  obtain ⟨xs, m, _, hx, hlen, hn, hel⟩ := DataW.trod_array Tryd.underlying101 hd
  rw [Tryd.cellsF10] at hlen
  rw [Tryd.cellsForm] at hel
  have cell := World.var?_cell Tryd.gForms hv
  obtain ⟨l⟩ := cs
  simp only [Prod.mk.injEq] at hx
  have hx := hx.1
  match xs, hn with
  | [x0, x1, x2, x3, x4, x5, x6, x7, x8, x9], _ =>
    simp [Rows.laid_loop_example_g00084_impl_opForms] at hx
    obtain ⟨q0, q1, q2, q3, q4, q5, q6, q7, q8, q9⟩ := hx
    intro k hk
    have key : ∀ r : List Value, (l.drop (k * 7)).take 7 = r → ∀ j, j < 7 → W.cell? ⟨0, k * 7 + j, none⟩ = r[j]? := fun r h j hj => by
      have := cell (k * 7 + j)
      simp at this
      rw [this]
      exact row_cell hj r h
    have hc : k = 0 ∨ k = 1 ∨ k = 2 ∨ k = 3 ∨ k = 4 ∨ k = 5 ∨ k = 6 ∨ k = 7 ∨ k = 8 ∨ k = 9 := by omega
    rcases hc with rfl | rfl | rfl | rfl | rfl | rfl | rfl | rfl | rfl | rfl
    · have hr := form_of (hel 0 (by decide)) q0.symm
      have kk := key _ hr
      exact ⟨kk 0 (by decide), kk 1 (by decide), kk 2 (by decide), kk 3 (by decide), kk 4 (by decide), kk 5 (by decide), kk 6 (by decide)⟩
    · have hr := form_of (hel 1 (by decide)) q1.symm
      have kk := key _ hr
      exact ⟨kk 0 (by decide), kk 1 (by decide), kk 2 (by decide), kk 3 (by decide), kk 4 (by decide), kk 5 (by decide), kk 6 (by decide)⟩
    · have hr := form_of (hel 2 (by decide)) q2.symm
      have kk := key _ hr
      exact ⟨kk 0 (by decide), kk 1 (by decide), kk 2 (by decide), kk 3 (by decide), kk 4 (by decide), kk 5 (by decide), kk 6 (by decide)⟩
    · have hr := form_of (hel 3 (by decide)) q3.symm
      have kk := key _ hr
      exact ⟨kk 0 (by decide), kk 1 (by decide), kk 2 (by decide), kk 3 (by decide), kk 4 (by decide), kk 5 (by decide), kk 6 (by decide)⟩
    · have hr := form_of (hel 4 (by decide)) q4.symm
      have kk := key _ hr
      exact ⟨kk 0 (by decide), kk 1 (by decide), kk 2 (by decide), kk 3 (by decide), kk 4 (by decide), kk 5 (by decide), kk 6 (by decide)⟩
    · have hr := form_of (hel 5 (by decide)) q5.symm
      have kk := key _ hr
      exact ⟨kk 0 (by decide), kk 1 (by decide), kk 2 (by decide), kk 3 (by decide), kk 4 (by decide), kk 5 (by decide), kk 6 (by decide)⟩
    · have hr := form_of (hel 6 (by decide)) q6.symm
      have kk := key _ hr
      exact ⟨kk 0 (by decide), kk 1 (by decide), kk 2 (by decide), kk 3 (by decide), kk 4 (by decide), kk 5 (by decide), kk 6 (by decide)⟩
    · have hr := form_of (hel 7 (by decide)) q7.symm
      have kk := key _ hr
      exact ⟨kk 0 (by decide), kk 1 (by decide), kk 2 (by decide), kk 3 (by decide), kk 4 (by decide), kk 5 (by decide), kk 6 (by decide)⟩
    · have hr := form_of (hel 8 (by decide)) q8.symm
      have kk := key _ hr
      exact ⟨kk 0 (by decide), kk 1 (by decide), kk 2 (by decide), kk 3 (by decide), kk 4 (by decide), kk 5 (by decide), kk 6 (by decide)⟩
    · have hr := form_of (hel 9 (by decide)) q9.symm
      have kk := key _ hr
      exact ⟨kk 0 (by decide), kk 1 (by decide), kk 2 (by decide), kk 3 (by decide), kk 4 (by decide), kk 5 (by decide), kk 6 (by decide)⟩

theorem laid_forms {W : World} (h : laidMetH Tryd.prog [("loop.example/g00084/impl.opForms", Rows.laid_loop_example_g00084_impl_opForms)] W) : FormsAt W := by
  rw [MakeChecks.laidMetH_plain _ _ _ (by kernel_rfl)] at h
  obtain ⟨ps, ⟨g0, t0, cs0, f0, p0, q0, hg0, ht0, hv0, hd0, _⟩, _, _⟩ := h
  obtain rfl := Option.some.inj (Tryd.gForms.symm.trans hg0)
  obtain rfl := Option.some.inj (Tryd.gFormsType.symm.trans ht0)
  exact forms_of hv0 hd0

end Go.Proofs.YtfbooamjddnagaaDoor

namespace Go.Proofs.YtfbooamjddnagaaDoor
open Go.ChangeShapes Go.WideShapes Go.ChangeAt Go.RowKit

theorem Tryd.gPowType : (Tryd.prog.globals[4]?).map (·.type) = some 166 := by kernel_rfl
theorem Tryd.cellsPow : Tryd.prog.cellsOf 166 = 20 := by kernel_rfl
theorem Tryd.cellsU64 : Tryd.prog.cellsOf 158 = 1 := by kernel_rfl
theorem pow_data {H : Type} : (Rows.laid_internal_strconv_uint64pow10 : DataW H) = Lib.tabData .u64 Lib.pow10Tab := by
  unfold Rows.laid_internal_strconv_uint64pow10 Lib.tabData Lib.pow10Tab
  rfl
theorem pow_of {H : Type} {enc : TypeId × Value → H} {W : World} {base : Nat} {spare : Nat → Bool} {held : Bool} {fuel : Nat} {p : List MemPlace} {cs : Array Value}
    (hv : W.var? Tryd.prog "internal/strconv.uint64pow10" = some cs)
    (hd : DataW.trod enc Tryd.prog W base spare held fuel 166 cs.toList = some (Rows.laid_internal_strconv_uint64pow10, p)) : PowAt W := by
  rw [pow_data] at hd
  unfold PowAt Lib.TabIs
  rw [hv, ← Lib.cells_of_tab Tryd.underlying166 Tryd.underlying158 Tryd.cellsU64 Tryd.cellsPow hd]

theorem Tryd.gWords : Tryd.prog.globalNamed "loop.example/g00084/impl.opWords" = some 1 := by kernel_rfl
theorem Tryd.gWordsType : (Tryd.prog.globals[1]?).map (·.type) = some 113 := by kernel_rfl
theorem Tryd.cellsW10 : Tryd.prog.cellsOf 113 = 10 := by kernel_rfl
theorem Tryd.cellsStr1 : Tryd.prog.cellsOf 9 = 1 := by kernel_rfl
theorem bytes_of {s : ByteArray} {l : List UInt8} (h : s.data.toList = l) : s = ⟨l.toArray⟩ := by
  subst h
  apply ByteArray.ext
  simp

set_option maxHeartbeats 1600000 in
set_option maxRecDepth 100000 in
theorem words_of {H : Type} {enc : TypeId × Value → H} {W : World} {base : Nat} {spare : Nat → Bool} {held : Bool} {fuel : Nat} {p : List MemPlace} {cs : Array Value}
    (hv : W.var? Tryd.prog "loop.example/g00084/impl.opWords" = some cs)
    (hd : DataW.trod enc Tryd.prog W base spare held fuel 113 cs.toList = some (Rows.laid_loop_example_g00084_impl_opWords, p)) : WordsAt W := by
  obtain ⟨xs, m, _, hx, hlen, hn, hel⟩ := DataW.trod_array Tryd.underlying113 hd
  rw [Tryd.cellsW10] at hlen
  rw [Tryd.cellsStr1] at hel
  have cell := World.var?_cell Tryd.gWords hv
  obtain ⟨l⟩ := cs
  simp only [Prod.mk.injEq] at hx
  have hx := hx.1
  match xs, hn, l, hlen with
  | [x0, x1, x2, x3, x4, x5, x6, x7, x8, x9], _, [c0, c1, c2, c3, c4, c5, c6, c7, c8, c9], _ =>
    have h0 := hel 0 (by decide)
    have h1 := hel 1 (by decide)
    have h2 := hel 2 (by decide)
    have h3 := hel 3 (by decide)
    have h4 := hel 4 (by decide)
    have h5 := hel 5 (by decide)
    have h6 := hel 6 (by decide)
    have h7 := hel 7 (by decide)
    have h8 := hel 8 (by decide)
    have h9 := hel 9 (by decide)
    simp at h0 h1 h2 h3 h4 h5 h6 h7 h8 h9
    obtain ⟨s0, e0, f0, _⟩ := DataW.trod_string Tryd.underlying9 h0
    obtain ⟨s1, e1, f1, _⟩ := DataW.trod_string Tryd.underlying9 h1
    obtain ⟨s2, e2, f2, _⟩ := DataW.trod_string Tryd.underlying9 h2
    obtain ⟨s3, e3, f3, _⟩ := DataW.trod_string Tryd.underlying9 h3
    obtain ⟨s4, e4, f4, _⟩ := DataW.trod_string Tryd.underlying9 h4
    obtain ⟨s5, e5, f5, _⟩ := DataW.trod_string Tryd.underlying9 h5
    obtain ⟨s6, e6, f6, _⟩ := DataW.trod_string Tryd.underlying9 h6
    obtain ⟨s7, e7, f7, _⟩ := DataW.trod_string Tryd.underlying9 h7
    obtain ⟨s8, e8, f8, _⟩ := DataW.trod_string Tryd.underlying9 h8
    obtain ⟨s9, e9, f9, _⟩ := DataW.trod_string Tryd.underlying9 h9
    simp [Rows.laid_loop_example_g00084_impl_opWords, f0, f1, f2, f3, f4, f5, f6, f7, f8, f9] at hx
    simp at e0 e1 e2 e3 e4 e5 e6 e7 e8 e9
    obtain ⟨q0, q1, q2, q3, q4, q5, q6, q7, q8, q9⟩ := hx
    subst e0 e1 e2 e3 e4 e5 e6 e7 e8 e9
    intro k hk
    have hc : k = 0 ∨ k = 1 ∨ k = 2 ∨ k = 3 ∨ k = 4 ∨ k = 5 ∨ k = 6 ∨ k = 7 ∨ k = 8 ∨ k = 9 := by omega
    rcases hc with rfl | rfl | rfl | rfl | rfl | rfl | rfl | rfl | rfl | rfl
    · have := cell 0
      simp at this
      rw [this, show s0 = ⟨#[]⟩ from ByteArray.ext q0]
      rfl
    · have := cell 1
      simp at this
      rw [this, bytes_of q1.symm]
      rfl
    · have := cell 2
      simp at this
      rw [this, bytes_of q2.symm]
      rfl
    · have := cell 3
      simp at this
      rw [this, bytes_of q3.symm]
      rfl
    · have := cell 4
      simp at this
      rw [this, bytes_of q4.symm]
      rfl
    · have := cell 5
      simp at this
      rw [this, bytes_of q5.symm]
      rfl
    · have := cell 6
      simp at this
      rw [this, bytes_of q6.symm]
      rfl
    · have := cell 7
      simp at this
      rw [this, bytes_of q7.symm]
      rfl
    · have := cell 8
      simp at this
      rw [this, bytes_of q8.symm]
      rfl
    · have := cell 9
      simp at this
      rw [this, bytes_of q9.symm]
      rfl

theorem laid_text {W : World} {a b : DataW Unit} (h : laidMetH Tryd.prog [("math/bits.deBruijn32tab", a), ("math/bits.deBruijn64tab", b), ("internal/strconv.uint64pow10", Rows.laid_internal_strconv_uint64pow10), ("loop.example/g00084/impl.opWords", Rows.laid_loop_example_g00084_impl_opWords), ("loop.example/g00084/impl.opForms", Rows.laid_loop_example_g00084_impl_opForms)] W) (hp : laidMetH Tryd.prog [("math/bits.deBruijn32tab", a), ("math/bits.deBruijn64tab", b), ("internal/strconv.uint64pow10", Rows.laid_internal_strconv_uint64pow10), ("loop.example/g00084/impl.opWords", Rows.laid_loop_example_g00084_impl_opWords), ("loop.example/g00084/impl.opForms", Rows.laid_loop_example_g00084_impl_opForms)] W ↔ laidMet Tryd.prog [("math/bits.deBruijn32tab", a), ("math/bits.deBruijn64tab", b), ("internal/strconv.uint64pow10", Rows.laid_internal_strconv_uint64pow10), ("loop.example/g00084/impl.opWords", Rows.laid_loop_example_g00084_impl_opWords), ("loop.example/g00084/impl.opForms", Rows.laid_loop_example_g00084_impl_opForms)] W) : FormsAt W ∧ PowAt W ∧ WordsAt W := by
  have h := hp.1 h
  obtain ⟨ps, ⟨_, _, _, _, _, _, _, _, _, _, ⟨_, _, _, _, _, _, _, _, _, _, ⟨g2, t2, cs2, f2, p2, q2, hg2, ht2, hv2, hd2, ⟨g3, t3, cs3, f3, p3, q3, hg3, ht3, hv3, hd3, ⟨g4, t4, cs4, f4, p4, q4, hg4, ht4, hv4, hd4, _⟩, _⟩, _⟩, _⟩, _⟩, _⟩ := h
  obtain rfl := Option.some.inj (Tryd.gPow.symm.trans hg2)
  obtain rfl := Option.some.inj (Tryd.gPowType.symm.trans ht2)
  obtain rfl := Option.some.inj (Tryd.gWords.symm.trans hg3)
  obtain rfl := Option.some.inj (Tryd.gWordsType.symm.trans ht3)
  obtain rfl := Option.some.inj (Tryd.gForms.symm.trans hg4)
  obtain rfl := Option.some.inj (Tryd.gFormsType.symm.trans ht4)
  exact ⟨forms_of hv4 hd4, pow_of hv2 hd2, words_of hv3 hd3⟩

end Go.Proofs.YtfbooamjddnagaaDoor
