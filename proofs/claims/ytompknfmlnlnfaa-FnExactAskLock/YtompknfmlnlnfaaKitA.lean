/-
  OWN TEXT: append onto an owned row of what may be nothing; a line as cells.
-/
import Derived.Test.YtompknfmlnlnfaaKitM
import Derived.Test.YtompknfmlnlnfaaMarkL
import Derived.Test.YtompknfmlnlnfaaPlainW
namespace Go.Proofs.Ytompknfmlnlnfaa
open Go.RowKit

theorem wpList_append_any {P : Program} (w : World) {ops : Array Oper} {rest : List Oper} {o : Oper} {a : Act} {Q : Exit → Act → World → Prop}
    (hg : o.guard = none) (s x : Operand) (t : TypeId) (hop : o.op = Op.call { callee := Callee.builtin Builtin.append, args := #[s, x], argTypes := #[t, t] })
    (base : Nat) (e : TypeId) (i : TypeInfo) (z : Value) (size bytes : Nat) (h1 : P.underlying t = some (.slice e)) (h2 : P.info? e = some i) (h3 : i.zero = some z) (h4 : i.size = size) (h5 : i.bytes = bytes) (h6 : z.cells.size = size) (h7 : 0 < size)
    (v : Value) (n : Nat) (xs : List Value) (hs : a.eval s = v) (h : w.ownsRow base e size v n xs)
    (sa : Option Addr) (m c : Nat) (news : List Value) (hx : a.eval x = .slice sa m c) (hnil : sa = none → m = 0 ∧ c = 0) (hn : news.length = m * size) (hc : ∀ ad, sa = some ad → ∀ j u, news[j]? = some u → w.cell? (ad.add j) = some u) (h1c : ∀ u ∈ news, u.oneCell' = true)
    (b1 : n + m ≤ maxLen) (b2 : (n + m) * bytes ≤ 140737488355328) (hbase : base ≤ w.heap.size)
    (hK : ∀ v' w', w'.ownsRow base e size v' (n + m) (xs ++ news) → w.grownBy w' v.ownBlock → wpList P ops Q rest (a.put o.dst v') w') :
    wpList P ops Q (o :: rest) a w := by
  cases sa with
  | none =>
    obtain ⟨rfl, rfl⟩ := hnil rfl
    have hnews : news = [] := List.eq_nil_of_length_eq_zero (by simpa using hn)
    subst hnews
    refine wpList_append_own_none hg s x t hop base e i size h1 h2 v n xs hs h hx (hK v w ?_ (World.grownBy.refl w _))
    rw [Nat.add_zero, List.append_nil]; exact h
  | some ad =>
    refine wpList_append_own w hg s x t hop base e i z size bytes h1 h2 h3 h4 h5 h6 h7 v n xs hs h ad m c news hx hn (hc ad rfl) h1c b1 b2 hbase ?_
    intro v' w' ho hgr _
    exact hK v' w' ho hgr

theorem askList_length (l : Line) : (askList l).length = l.n * 2 := by simp [askList]
theorem askList_get {l : Line} {j : Nat} {u : Value} (h : (askList l)[j]? = some u) : j < l.n * 2 ∧ u = askCell l j := by
  unfold askList at h
  rw [List.getElem?_map] at h
  by_cases hj : j < l.n * 2
  · rw [List.getElem?_range hj] at h; simp at h; exact ⟨hj, h.symm⟩
  · rw [List.getElem?_eq_none (by simpa using hj)] at h; cases h
theorem askList_one (l : Line) : ∀ u ∈ askList l, u.oneCell' = true := by
  intro u hu
  unfold askList at hu
  simp only [List.mem_map] at hu
  obtain ⟨j, _, rfl⟩ := hu
  unfold askCell
  split <;> rfl
/-- The cells of a line, read at its address. -/
theorem line_cells {w : World} {ao : Option Addr} {l : Line} (h : LineAt w ao l) : ∀ ad, ao = some ad → ∀ j u, (askList l)[j]? = some u → w.cell? (ad.add j) = some u := by
  intro ad e j u hu
  obtain ⟨hj, rfl⟩ := askList_get hu
  obtain ⟨b, off, e', h1, h2⟩ := h (j / 2) (by omega)
  rw [e] at e'
  simp only [Option.some.injEq] at e'
  subst e'
  rw [Addr.add_lit]
  by_cases hm : j % 2 = 0
  · rw [show off + j = off + j / 2 * 2 by omega, h1]; unfold askCell; rw [if_pos hm]
  · rw [show off + j = off + j / 2 * 2 + 1 by omega, h2]; unfold askCell; rw [if_neg hm]
theorem line_of_own {w : World} {base e c : Nat} {ao : Option Addr} {l : Line} (h : w.ownsRow base e 2 (.slice ao l.n c) l.n (askList l)) : LineAt w ao l := by
  intro k hk
  obtain ⟨g, rfl, _, _⟩ := own_addr h (by omega)
  have c0 := own_cell h (k * 2) (by omega) rfl
  have c1 := own_cell h (k * 2 + 1) (by omega) rfl
  rw [askCell_0] at c0
  rw [askCell_1] at c1
  exact ⟨g, 0, rfl, by rw [Nat.zero_add]; exact c0, by rw [Nat.zero_add]; exact c1⟩
/-- The first j of a line. -/
def headLine (l : Line) (j : Nat) : Line := ⟨j, l.T, l.S⟩
theorem headLine_at {w : World} {ao : Option Addr} {l : Line} {j : Nat} (h : LineAt w ao l) (hj : j ≤ l.n) : LineAt w ao (headLine l j) := fun k hk => h k (Nat.lt_of_lt_of_le hk hj)
theorem askList_cat (h q : Line) (j : Nat) : askList (catLine h q j) = askList h ++ askList (headLine q j) := by
  apply List.ext_getElem?
  intro i
  unfold askList
  have e1 : (catLine h q j).n = h.n + j := rfl
  have e2 : (headLine q j).n = j := rfl
  rw [e1, e2]
  by_cases hi : i < h.n * 2
  · rw [List.getElem?_append_left (by simpa using hi), List.getElem?_map, List.getElem?_map, List.getElem?_range (by omega), List.getElem?_range hi]
    simp only [Option.map_some, Option.some.injEq]
    unfold askCell
    rw [(cat_lo (q := q) (j := j) (show i / 2 < h.n by omega)).1, (cat_lo (q := q) (j := j) (show i / 2 < h.n by omega)).2]
  · rw [List.getElem?_append_right (by simpa using hi)]
    simp only [List.length_map, List.length_range, List.getElem?_map]
    by_cases hi2 : i < (h.n + j) * 2
    · rw [List.getElem?_range hi2, List.getElem?_range (by omega)]
      simp only [Option.map_some, Option.some.injEq]
      obtain ⟨i', rfl⟩ : ∃ i', i = h.n * 2 + i' := ⟨i - h.n * 2, by omega⟩
      unfold askCell headLine
      rw [show (h.n * 2 + i') / 2 = h.n + i' / 2 by omega, (cat_hi (h := h) (q := q) (j := j)).1, (cat_hi (h := h) (q := q) (j := j)).2, show h.n * 2 + i' - h.n * 2 = i' by omega, show (h.n * 2 + i') % 2 = i' % 2 by omega]
    · rw [List.getElem?_eq_none (by simpa using hi2), List.getElem?_eq_none (by simp; omega)]; rfl

/-- Grown, and written in one block alone. -/
theorem kept_by {w w' : World} {row : Option Nat} (h : w.grownBy w' row) : Kept w w' (fun b => row = some b) := ⟨h.os, h.tape, h.output, h.size, fun i hi hn => h.block i hi (fun e => hn e.symm)⟩

end Go.Proofs.Ytompknfmlnlnfaa
