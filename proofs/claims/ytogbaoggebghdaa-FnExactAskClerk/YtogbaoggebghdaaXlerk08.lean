/-
  OWN TEXT: ViewD, ViewRw, VAns1.
-/
import Derived.Test.YtogbaoggebghdaaRows
import Derived.Test.YtogbaoggebghdaaXlerk07
import Derived.Test.YtogbaoggebghdaaB01
import Derived.Test.YtogbaoggebghdaaB03
import Derived.Test.YtogbaoggebghdaaB04
namespace Go.Proofs.Ytogbaoggebghdaa
open Go.ChangeShapes Go.WideShapes Go.ChangeAt Go.RowKit Go.Deep Go.Joins

theorem weightsAll_mem {H : Type} {P : Program} {e : Nat} {x : Nat} : ∀ {l : List (DataW H)} {d : DataW H}, d ∈ l → x ∈ DataW.weights P e d → x ∈ DataW.weightsAll P e l := by
  intro l
  induction l with
  | nil => intro d h; cases h
  | cons a l ih =>
    intro d h hx
    rw [DataW.weightsAll, List.mem_append]
    rcases List.mem_cons.1 h with rfl | h
    · exact .inl hx
    · exact .inr (ih h hx)

section
variable {H : Type} {enc : TypeId × Value → H} {P : Program} {w : World} {base : Nat} {held : Bool}

theorem view_list {t e fuel sz bytes : Nat} {v : Value} {x : DataW H × List MemPlace} (ht : P.underlying t = some (.slice e)) (hc : P.cellsOf e = sz) (h0 : 0 < sz) (hby : P.bytesOf e = bytes)
    (h : DataW.trod enc P w base (fun _ => true) held fuel t [v] = some x) (hw : ∀ y ∈ DataW.weights P t x.1, y ≤ reachBytes) :
    ∃ ao n cap C, v = .slice ao n cap ∧ RecsAt w ao n sz C ∧ n ≤ cap ∧ (ao = none → n = 0 ∧ cap = 0) ∧ cap * bytes ≤ reachBytes ∧
      ∀ k, k < n → (C k).length = sz ∧ ∃ fl z, DataW.trod enc P w base (fun _ => true) held fl e (C k) = some z ∧ ∀ y ∈ DataW.weights P e z.1, y ≤ reachBytes := by
  rcases open_slice ht h with ⟨hcs, hx⟩ | ⟨a, n, cap, m, fl, D, Pl, hcs, _, hl, hm, hmm, hx, hcell⟩
  · simp at hcs
    subst hcs
    exact ⟨none, 0, 0, fun _ => [], rfl, fun k hk => absurd hk (Nat.not_lt_zero _), Nat.le_refl _, fun _ => ⟨rfl, rfl⟩, by omega, fun k hk => absurd hk (Nat.not_lt_zero _)⟩
  · simp at hcs
    subst hcs
    rw [if_pos rfl] at hmm
    subst hmm
    have hcap : m * bytes ≤ reachBytes := by
      have := hw ((n + (m - n)) * P.bytesOf e) (by rw [hx]; simp [DataW.weights, ht])
      rw [hby, show n + (m - n) = m by omega] at this
      exact this
    by_cases hn0 : n = 0
    · subst hn0
      exact ⟨some a, 0, m, fun _ => [], rfl, fun k hk => absurd hk (Nat.not_lt_zero _), hl, (fun h => by cases h), hcap, fun k hk => absurd hk (Nat.not_lt_zero _)⟩
    have hspot : a.spot = none := by
      obtain ⟨cs, hcl, _⟩ := hcell 0 (by omega)
      rw [hc] at hcl
      obtain ⟨_, hlen, hget⟩ := World.cells?_some hcl
      have g0 := hget 0 (by omega)
      rw [List.getElem?_eq_getElem (by omega)] at g0
      have := World.cell?_spot g0
      simpa [Addr.add] using this
    obtain ⟨b, off, spot⟩ := a
    simp only at hspot
    subst hspot
    have key : ∀ k, k < n → ∃ cs : List Value, (cs.length = sz ∧ ∀ j, j < sz → w.cell? ⟨b, off + k * sz + j, none⟩ = some (cs.getD j (.bool false))) ∧ ∃ fl z, DataW.trod enc P w base (fun _ => true) held fl e cs = some z ∧ ∀ y ∈ DataW.weights P e z.1, y ≤ reachBytes := by
      intro k hk
      obtain ⟨cs, hcl, htr⟩ := hcell k (by omega)
      rw [hc] at hcl
      obtain ⟨_, hlen, hget⟩ := World.cells?_some hcl
      refine ⟨cs, ⟨hlen, fun j hj => ?_⟩, _, _, htr, fun y hy => ?_⟩
      · have g := hget j hj
        rw [List.getElem?_eq_getElem (by omega)] at g
        rw [List.getD_eq_getElem?_getD, List.getElem?_eq_getElem (by omega)]
        simp only [Addr.add_lit] at g
        exact g
      · refine hw y ?_
        have h1 : D k ∈ (List.range n).map D := List.mem_map.2 ⟨k, List.mem_range.2 hk, rfl⟩
        have h2 := weightsAll_mem h1 hy
        rw [hx]
        simp [DataW.weights, ht, h2]
    obtain ⟨C, hC⟩ := choose_lt key
    exact ⟨some ⟨b, off, none⟩, n, m, C, rfl, fun k hk => ⟨b, off, rfl, (hC k hk).1.2⟩, hl, (fun h => by cases h), hcap, fun k hk => ⟨(hC k hk).1.1, (hC k hk).2⟩⟩

theorem trod_struct3' {t : TypeId} {f0 f1 f2 : Field} {fuel : Nat} {spare : Nat → Bool} {cs : List Value} {x : DataW H × List MemPlace} (ht : P.underlying t = some (.struct #[f0, f1, f2])) (h : DataW.trod enc P w base spare held fuel t cs = some x) :
    ∃ y0 y1 y2 n, x.1 = .agg [y0.1, y1.1, y2.1] ∧ cs.length = P.cellsOf t ∧ DataW.trod enc P w base spare held n f0.type ((cs.drop f0.offset).take (P.cellsOf f0.type)) = some y0 ∧
      DataW.trod enc P w base spare held n f1.type ((cs.drop f1.offset).take (P.cellsOf f1.type)) = some y1 ∧ DataW.trod enc P w base spare held n f2.type ((cs.drop f2.offset).take (P.cellsOf f2.type)) = some y2 := by
  obtain ⟨xs, n, _, rfl, hl, hlen, hf⟩ := DataW.trod_struct ht h
  match xs, hlen with
  | [y0, y1, y2], _ => exact ⟨y0, y1, y2, n, by simp, hl, by simpa using hf 0 f0 rfl, by simpa using hf 1 f1 rfl, by simpa using hf 2 f2 rfl⟩
end

end Go.Proofs.Ytogbaoggebghdaa

namespace Go.Proofs.Ytogbaoggebghdaa
open Go.ChangeShapes Go.WideShapes Go.ChangeAt Go.RowKit Go.Deep Go.Joins

theorem Try.cellsRow : Try.prog.cellsOf 115 = 5 := by kernel_rfl
theorem Try.bytesRow : Try.prog.bytesOf 115 = 48 := by kernel_rfl
theorem Try.cellsStrRow : Try.prog.cellsOf 9 = 1 := by kernel_rfl
theorem trod_struct_row {H : Type} {enc : TypeId × Value → H} {P : Program} {w : World} {base : Nat} {spare : Nat → Bool} {held : Bool} {t : TypeId} {f0 f1 f2 f3 f4 : Field} {fuel : Nat} {cs : List Value} {x : DataW H × List MemPlace} (ht : P.underlying t = some (.struct #[f0, f1, f2, f3, f4])) (h : DataW.trod enc P w base spare held fuel t cs = some x) :
    ∃ y0 y1 y2 y3 y4 n, x.1 = .agg [y0.1, y1.1, y2.1, y3.1, y4.1] ∧ DataW.trod enc P w base spare held n f0.type ((cs.drop f0.offset).take (P.cellsOf f0.type)) = some y0 ∧ DataW.trod enc P w base spare held n f1.type ((cs.drop f1.offset).take (P.cellsOf f1.type)) = some y1 ∧ DataW.trod enc P w base spare held n f2.type ((cs.drop f2.offset).take (P.cellsOf f2.type)) = some y2 ∧ DataW.trod enc P w base spare held n f3.type ((cs.drop f3.offset).take (P.cellsOf f3.type)) = some y3 ∧ DataW.trod enc P w base spare held n f4.type ((cs.drop f4.offset).take (P.cellsOf f4.type)) = some y4 := by
  obtain ⟨xs, n, _, rfl, hl, hlen, hf⟩ := DataW.trod_struct ht h
  match xs, hlen with
  | [y0, y1, y2, y3, y4], _ => exact ⟨y0, y1, y2, y3, y4, n, by simp, by simpa using hf 0 f0 rfl, by simpa using hf 1 f1 rfl, by simpa using hf 2 f2 rfl, by simpa using hf 3 f3 rfl, by simpa using hf 4 f4 rfl⟩

set_option maxRecDepth 100000 in
theorem view_rows {H : Type} {enc : TypeId × Value → H} {W : World} {base fuel : Nat} {held : Bool} {v : Value} {x : DataW H × List MemPlace}
    (h : DataW.trod enc Try.prog W base (fun _ => true) held fuel 47 [v] = some x) (hw : ∀ y ∈ DataW.weights Try.prog 47 x.1, y ≤ reachBytes) :
    ∃ ao n cap S, v = .slice ao n cap ∧ MRowsAt W ao n S ∧ SliceOk ao n cap ∧ MRowsShort n S 1000000000000000 := by
  obtain ⟨ao, n, cap, C, rfl, hr, hl, hn, hb, hk⟩ := view_list Try.underlying47 Try.cellsRow (by omega) Try.bytesRow h hw
  have key : ∀ k, k < n → ∃ y : MRow, C k = [.int .i64 y.name, .string y.own, .int .i64 y.pe, .int .i64 y.ln, .int .i64 y.cab] ∧ y.own.size ≤ 1000000000000000 := by
    intro k hk'
    obtain ⟨hlen, fl, z, ht, hz⟩ := hk k hk'
    obtain ⟨y0, y1, y2, y3, y4, m, hx, h0, h1, h2, h3, h4⟩ := trod_struct_row Try.underlying115 ht
    rw [hx] at hz
    simp only [Try.cellsInt, Try.cellsStrRow] at h0 h1 h2 h3 h4
    generalize C k = l at *
    match l, hlen with
    | [p0, p1, p2, p3, p4], _ =>
      obtain ⟨i0, e0, _, _⟩ := DataW.trod_int Try.underlying3 h0
      obtain ⟨i1, e1, x1, _⟩ := DataW.trod_string Try.underlying9 h1
      have w1 : i1.size ≤ reachBytes := hz i1.size (by rw [x1]; simp [DataW.weights, DataW.weightsEach, Try.underlying115])
      unfold reachBytes at w1
      obtain ⟨i2, e2, _, _⟩ := DataW.trod_int Try.underlying3 h2
      obtain ⟨i3, e3, _, _⟩ := DataW.trod_int Try.underlying3 h3
      obtain ⟨i4, e4, _, _⟩ := DataW.trod_int Try.underlying3 h4
      simp at e0 e1 e2 e3 e4
      subst e0 e1 e2 e3 e4
      exact ⟨⟨i0, i1, i2, i3, i4⟩, rfl, (show i1.size ≤ _ by omega)⟩
  obtain ⟨S, hS⟩ := choose_lt key
  refine ⟨ao, n, cap, S, rfl, fun k hk' => ?_, ⟨hl, by unfold reachBytes at hb; omega, hn⟩, by unfold reachBytes at hb; omega, fun k hk' => (hS k hk').2⟩
  obtain ⟨b, off, e, hc⟩ := hr k hk'
  rw [(hS k hk').1] at hc
  exact ⟨b, off, e, hc 0 (by omega), hc 1 (by omega), hc 2 (by omega), hc 3 (by omega), hc 4 (by omega)⟩

end Go.Proofs.Ytogbaoggebghdaa

namespace Go.Proofs.Ytogbaoggebghdaa
open Go.ChangeShapes Go.WideShapes Go.ChangeAt Go.RowKit Go.Deep Go.Joins

theorem Try.cellsAnswer : Try.prog.cellsOf 49 = 4 := by kernel_rfl
theorem Try.cellsRowSAnswer : Try.prog.cellsOf 47 = 1 := by kernel_rfl
theorem trod_struct_answer {H : Type} {enc : TypeId × Value → H} {P : Program} {w : World} {base : Nat} {spare : Nat → Bool} {held : Bool} {t : TypeId} {f0 f1 f2 f3 : Field} {fuel : Nat} {cs : List Value} {x : DataW H × List MemPlace} (ht : P.underlying t = some (.struct #[f0, f1, f2, f3])) (h : DataW.trod enc P w base spare held fuel t cs = some x) :
    ∃ y0 y1 y2 y3 n, x.1 = .agg [y0.1, y1.1, y2.1, y3.1] ∧ cs.length = P.cellsOf t ∧ DataW.trod enc P w base spare held n f0.type ((cs.drop f0.offset).take (P.cellsOf f0.type)) = some y0 ∧ DataW.trod enc P w base spare held n f1.type ((cs.drop f1.offset).take (P.cellsOf f1.type)) = some y1 ∧ DataW.trod enc P w base spare held n f2.type ((cs.drop f2.offset).take (P.cellsOf f2.type)) = some y2 ∧ DataW.trod enc P w base spare held n f3.type ((cs.drop f3.offset).take (P.cellsOf f3.type)) = some y3 := by
  obtain ⟨xs, n, _, rfl, hl, hlen, hf⟩ := DataW.trod_struct ht h
  match xs, hlen with
  | [y0, y1, y2, y3], _ => exact ⟨y0, y1, y2, y3, n, by simp, hl, by simpa using hf 0 f0 rfl, by simpa using hf 1 f1 rfl, by simpa using hf 2 f2 rfl, by simpa using hf 3 f3 rfl⟩
theorem list_answer {α : Type} {cs : List α} (h : cs.length = 4) : ∃ c0 c1 c2 c3, cs = [c0, c1, c2, c3] := by
  match cs, h with
  | [c0, c1, c2, c3], _ => exact ⟨c0, c1, c2, c3, rfl⟩

set_option maxRecDepth 100000 in
set_option maxHeartbeats 1600000 in
/-- The cells of an answer that came in. -/
theorem view_answer {H : Type} {enc : TypeId × Value → H} {W : World} {base fuel : Nat} {held : Bool} {cs : List Value} {x : DataW H × List MemPlace}
    (h : DataW.trod enc Try.prog W base (fun _ => true) held fuel 49 cs = some x) (hw : ∀ y ∈ DataW.weights Try.prog 49 x.1, y ≤ reachBytes) :
    ∃ s : AnsD, AnsD.Is W cs s ∧ AnsD.Short s 1000000000000000 := by
  obtain ⟨y0, y1, y2, y3, n, hx, hl, h0, h1, h2, h3⟩ := trod_struct_answer Try.underlying49 h
  rw [hx] at hw
  rw [Try.cellsAnswer] at hl
  obtain ⟨c0, c1, c2, c3, rfl⟩ := list_answer hl
  simp only [Try.cellsInt, Try.cellsRowSAnswer, List.drop, List.take] at h0 h1 h2 h3
  obtain ⟨v0, e0, _, _⟩ := DataW.trod_int Try.underlying3 h0
  obtain ⟨v1, e1, _, _⟩ := DataW.trod_int Try.underlying3 h1
  obtain ⟨v2, e2, _, _⟩ := DataW.trod_int Try.underlying3 h2
  obtain ⟨arw, nrw, crw, lrw, e3, grw, srw, qrw⟩ := view_rows h3 (fun x hx => hw x (by simp [DataW.weights, DataW.weightsEach, Try.underlying49, hx]))
  simp at e0 e1 e2
  subst e0 e1 e2
  subst e3
  exact ⟨⟨v0, v1, v2, nrw, lrw⟩, ⟨arw, crw, rfl, grw, srw⟩, qrw⟩
instance : Inhabited AnsD := ⟨⟨0, 0, 0, 0, fun _ => MRow.zero⟩⟩

set_option maxRecDepth 100000 in
/-- By value. -/
theorem open_answer {H : Type} {enc : TypeId × Value → H} {W : World} {base : Nat} {v : Value} {d : DataW H} {p : List MemPlace} (hv : Value.okWide Try.prog W .any base 49 v)
    (h : DataW.Trod enc Try.prog W 0 (fun _ => true) true 49 v d p) (hw : ∀ x ∈ DataW.weights Try.prog 49 d, x ≤ reachBytes) :
    ∃ (cs : List Value) (s : AnsD), v = .agg cs.toArray ∧ AnsD.Is W cs s ∧ AnsD.Short s 1000000000000000 := by
  obtain ⟨cs, rfl, _⟩ := okWide_struct Try.underlying49 hv
  obtain ⟨fuel, hf⟩ := h
  obtain ⟨s, h1, h2⟩ := view_answer hf hw
  exact ⟨cs.toList, s, by simp, by simpa [Value.cells] using h1, h2⟩

end Go.Proofs.Ytogbaoggebghdaa
