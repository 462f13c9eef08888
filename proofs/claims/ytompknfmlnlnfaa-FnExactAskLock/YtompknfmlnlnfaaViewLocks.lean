/-
  OWN TEXT: locks that came in, opened.
-/
import Derived.Test.YtompknfmlnlnfaaRows
import Derived.Test.YtompknfmlnlnfaaViews
import Derived.Test.YtompknfmlnlnfaaLLock
namespace Go.Proofs.Ytompknfmlnlnfaa
open Go.ChangeShapes Go.WideShapes Go.ChangeAt Go.RowKit Go.Deep Go.Joins

theorem weightsAll_mem {H : Type} {P : Program} {e : Nat} {x : Nat} : ∀ {l : List (DataW H)} {d : DataW H}, d ∈ l → x ∈ DataW.weights P e d → x ∈ DataW.weightsAll P e l := by
  intro l
  induction l with
  | nil => intro d h; cases h
  | cons a l ih =>
    intro d h hx
    rw [DataW.weightsAll, List.mem_append]
    rcases List.mem_cons.1 h with rfl | h
    · exact .inl hx
    · exact .inr (ih h hx)

section
variable {H : Type} {enc : TypeId × Value → H} {P : Program} {w : World} {base : Nat} {held : Bool}

theorem view_asked {t e fuel ti tb bytes : Nat} {f0 f1 : Field} {v : Value} {x : DataW H × List MemPlace} (ht : P.underlying t = some (.slice e)) (he : P.underlying e = some (.struct #[f0, f1])) (hc : P.cellsOf e = 2)
    (t0 : f0.type = ti) (t1 : f1.type = tb) (o0 : f0.offset = 0) (o1 : f1.offset = 1)
    (hi : P.underlying ti = some (.int .i64)) (hb : P.underlying tb = some .bool) (ci : P.cellsOf ti = 1) (cb : P.cellsOf tb = 1) (hby : P.bytesOf e = bytes)
    (h : DataW.trod enc P w base (fun _ => true) held fuel t [v] = some x) (hw : ∀ y ∈ DataW.weights P t x.1, y ≤ reachBytes) :
    ∃ ao cap l, v = .slice ao l.n cap ∧ LineAt w ao l ∧ l.n ≤ cap ∧ (ao = none → l.n = 0 ∧ cap = 0) ∧ cap * bytes ≤ reachBytes := by
  rcases open_slice ht h with ⟨hcs, hx⟩ | ⟨a, n, cap, m, fl, D, Pl, hcs, _, hl, hm, hmm, hx, hcell⟩
  · simp at hcs
    subst hcs
    exact ⟨none, 0, ⟨0, fun _ => 0, fun _ => false⟩, rfl, fun k hk => absurd hk (Nat.not_lt_zero _), Nat.le_refl _, fun _ => ⟨rfl, rfl⟩, by omega⟩
  · simp at hcs
    subst hcs
    rw [if_pos rfl] at hmm
    subst hmm
    have hcap : m * bytes ≤ reachBytes := by
      have := hw ((n + (m - n)) * P.bytesOf e) (by rw [hx]; simp [DataW.weights, ht])
      rw [hby, show n + (m - n) = m by omega] at this
      exact this
    by_cases hn0 : n = 0
    · subst hn0
      exact ⟨some a, m, ⟨0, fun _ => 0, fun _ => false⟩, rfl, fun k hk => absurd hk (Nat.not_lt_zero _), hl, (fun h => by cases h), hcap⟩
    have hspot : a.spot = none := by
      obtain ⟨cs, hcl, _⟩ := hcell 0 (by omega)
      rw [hc] at hcl
      obtain ⟨_, hlen, hget⟩ := World.cells?_some hcl
      have g0 := hget 0 (by omega)
      rw [List.getElem?_eq_getElem (by omega)] at g0
      have := World.cell?_spot g0
      simpa [Addr.add] using this
    obtain ⟨b, off, spot⟩ := a
    simp only at hspot
    subst hspot
    have key : ∀ k, k < n → ∃ (y : Int × Bool), w.cell? ⟨b, off + k * 2, none⟩ = some (.int .i64 y.1) ∧ w.cell? ⟨b, off + k * 2 + 1, none⟩ = some (.bool y.2) := by
      intro k hk
      obtain ⟨cs, hcl, htr⟩ := hcell k (by omega)
      rw [hc] at hcl
      obtain ⟨_, hlen, hget⟩ := World.cells?_some hcl
      obtain ⟨y0, y1, n', _, _, h0, h1⟩ := trod_struct2 he htr
      rw [t0, o0, ci] at h0
      rw [t1, o1, cb] at h1
      match cs, hlen with
      | [p, q], _ =>
        obtain ⟨i0, e0, _, _⟩ := DataW.trod_int hi h0
        obtain ⟨i1, e1, _⟩ := DataW.trod_bool hb h1
        simp at e0 e1
        subst e0 e1
        have g0 := hget 0 (by omega)
        have g1 := hget 1 (by omega)
        simp only [List.getElem?_cons_zero, List.getElem?_cons_succ, Addr.add_lit, Nat.add_zero] at g0 g1
        exact ⟨(i0, i1), g0, g1⟩
    obtain ⟨f, hf⟩ := choose_lt key
    exact ⟨some ⟨b, off, none⟩, m, ⟨n, fun k => (f k).1, fun k => (f k).2⟩, rfl, fun k hk => ⟨b, off, rfl, hf k hk⟩, hl, (fun h => by cases h), hcap⟩
end

theorem Try.own : ownKnob Try.prog.godebug = none := by kernel_rfl
theorem Try.laidOut : laidOutB Try.prog = true := by kernel_rfl
theorem Try.cellsLock : Try.prog.cellsOf 87 = 3 := by kernel_rfl
theorem Try.cellsAsked : Try.prog.cellsOf 126 = 2 := by kernel_rfl
theorem Try.cellsAskedS : Try.prog.cellsOf 85 = 1 := by kernel_rfl
theorem Try.cellsInt : Try.prog.cellsOf 3 = 1 := by kernel_rfl
theorem Try.cellsBool : Try.prog.cellsOf 4 = 1 := by kernel_rfl
theorem Try.bytesLock : Try.prog.bytesOf 87 = 56 := by kernel_rfl
theorem Try.bytesAsked : Try.prog.bytesOf 126 = 16 := by kernel_rfl

instance : Inhabited Line := ⟨⟨0, fun _ => 0, fun _ => false⟩⟩

theorem okWide_slice_is {P : Program} {t e : Nat} {w : World} {r : Reach} {base : Nat} {v : Value} (ht : P.underlying t = some (.slice e)) (h : Value.okWide P w r base t v) : v.cells.toList = [v] := by
  simp only [Value.okWide, ht, Cell.okWide] at h
  cases v <;> simp_all [Cell.ok, Value.cells]

set_option maxRecDepth 100000 in
/-- Locks that came in, opened. -/
theorem open_locks {H : Type} {enc : TypeId × Value → H} {W : World} {base : Nat} {v : Value} {d : DataW H} {p : List MemPlace} (hv : Value.okWide Try.prog W .any base 42 v)
    (h : DataW.Trod enc Try.prog W 0 (fun _ => true) true 42 v d p) (hw : ∀ x ∈ DataW.weights Try.prog 42 d, x ≤ reachBytes) :
    ∃ ao N cap K HH Q, v = .slice ao N cap ∧ N ≤ 1000000000000000 ∧ ShortTo N HH Q 1000000000000000 ∧ LocksAt W ao N K HH Q := by
  obtain ⟨fuel, hf⟩ := h
  rw [okWide_slice_is Try.underlying42 hv] at hf
  rcases open_slice Try.underlying42 hf with ⟨hcs, hx⟩ | ⟨a, n, cap, m, fl, D, Pl, hcs, _, hl, hm, hmm, hx, hcell⟩
  · simp at hcs
    subst hcs
    exact ⟨none, 0, 0, fun _ => 0, fun _ => ⟨0, fun _ => 0, fun _ => false⟩, fun _ => ⟨0, fun _ => 0, fun _ => false⟩, rfl, by omega, fun i hi => by omega, fun i hi => by omega⟩
  · simp at hcs
    subst hcs
    rw [if_pos rfl] at hmm
    subst hmm
    simp only [Prod.mk.injEq] at hx
    obtain ⟨rfl, rfl⟩ := hx
    have hcap : m * 56 ≤ reachBytes := by
      have := hw ((n + (m - n)) * Try.prog.bytesOf 87) (by simp [DataW.weights, Try.underlying42])
      rw [Try.bytesLock, show n + (m - n) = m by omega] at this
      exact this
    unfold reachBytes at hcap
    by_cases hn0 : n = 0
    · subst hn0
      exact ⟨some a, 0, m, fun _ => 0, fun _ => ⟨0, fun _ => 0, fun _ => false⟩, fun _ => ⟨0, fun _ => 0, fun _ => false⟩, rfl, by omega, fun i hi => by omega, fun i hi => by omega⟩
    have hspot : a.spot = none := by
      obtain ⟨cs, hcl, _⟩ := hcell 0 (by omega)
      rw [Try.cellsLock] at hcl
      obtain ⟨_, hlen, hget⟩ := World.cells?_some hcl
      have g0 := hget 0 (by omega)
      rw [List.getElem?_eq_getElem (by omega)] at g0
      have := World.cell?_spot g0
      simpa [Addr.add] using this
    obtain ⟨b, off, spot⟩ := a
    simp only at hspot
    subst hspot
    have key : ∀ k, k < n → ∃ (y : Int × Line × Line), (y.2.1.n ≤ 1000000000000000 ∧ y.2.2.n ≤ 1000000000000000) ∧ ∃ ha hc qa qc, W.cell? ⟨b, off + k * 3, none⟩ = some (.int .i64 y.1) ∧ W.cell? ⟨b, off + k * 3 + 1, none⟩ = some (.slice ha y.2.1.n hc) ∧
        W.cell? ⟨b, off + k * 3 + 2, none⟩ = some (.slice qa y.2.2.n qc) ∧ LineAt W ha y.2.1 ∧ LineAt W qa y.2.2 ∧ SliceOk ha y.2.1.n hc ∧ SliceOk qa y.2.2.n qc := by
      intro k hk
      obtain ⟨cs, hcl, htr⟩ := hcell k (by omega)
      have hwk : ∀ x ∈ DataW.weights Try.prog 87 (D k), x ≤ reachBytes := by
        intro x hx
        refine hw x ?_
        have : D k ∈ (List.range n).map D := List.mem_map.2 ⟨k, List.mem_range.2 hk, rfl⟩
        have := weightsAll_mem this hx
        simp [DataW.weights, Try.underlying42, this]
      rw [Try.cellsLock] at hcl
      obtain ⟨_, hlen, hget⟩ := World.cells?_some hcl
      obtain ⟨y0, y1, y2, n', hx, _, h0, h1, h2⟩ := trod_struct3 Try.underlying87 htr
      simp only [Prod.mk.injEq] at hx
      rw [hx.1] at hwk
      match cs, hlen with
      | [u, v, w], _ =>
        simp only [Try.cellsInt, Try.cellsAskedS, List.drop, List.take] at h0 h1 h2
        obtain ⟨i0, e0, _, _⟩ := DataW.trod_int Try.underlying3 h0
        obtain ⟨ha, hc, l1, rfl, a1, a2, a3, a4⟩ := view_asked Try.underlying85 Try.underlying126 Try.cellsAsked rfl rfl rfl rfl Try.underlying3 Try.underlying4 Try.cellsInt Try.cellsBool Try.bytesAsked h1 (fun x hx => hwk x (by simp [DataW.weights, DataW.weightsEach, Try.underlying87, hx]))
        obtain ⟨qa, qc, l2, rfl, b1, b2, b3, b4⟩ := view_asked Try.underlying85 Try.underlying126 Try.cellsAsked rfl rfl rfl rfl Try.underlying3 Try.underlying4 Try.cellsInt Try.cellsBool Try.bytesAsked h2 (fun x hx => hwk x (by simp [DataW.weights, DataW.weightsEach, Try.underlying87, hx]))
        simp at e0
        subst e0
        have g0 := hget 0 (by omega)
        have g1 := hget 1 (by omega)
        have g2 := hget 2 (by omega)
        simp only [List.getElem?_cons_zero, List.getElem?_cons_succ, Addr.add_lit, Nat.add_zero] at g0 g1 g2
        unfold reachBytes at a4 b4
        exact ⟨(i0, l1, l2), ⟨by show l1.n ≤ _; omega, by show l2.n ≤ _; omega⟩, ha, hc, qa, qc, g0, g1, g2, a1, b1, ⟨a2, by omega, a3⟩, ⟨b2, by omega, b3⟩⟩
    obtain ⟨f, hf⟩ := choose_lt key
    refine ⟨some ⟨b, off, none⟩, n, m, fun k => (f k).1, fun k => (f k).2.1, fun k => (f k).2.2, rfl, by omega, fun k hk => (hf k hk).1, fun k hk => ?_⟩
    obtain ⟨ha, hc, qa, qc, g⟩ := (hf k hk).2
    exact ⟨b, off, ha, hc, qa, qc, rfl, g⟩

end Go.Proofs.Ytompknfmlnlnfaa
