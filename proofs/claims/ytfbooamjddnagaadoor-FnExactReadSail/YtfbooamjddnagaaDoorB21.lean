/-
  OWN TEXT: Plain3, KitB.
-/
import Derived.Test.YtfbooamjddnagaaDoorB00
import Derived.Test.YtfbooamjddnagaaDoorB03
namespace Go.Proofs.YtfbooamjddnagaaDoor

/-- The values of the used ones among the first k slots. -/
def recs (U : Nat → Bool) (V : Nat → Int) : Nat → List Int
  | 0 => []
  | k + 1 => if U k then recs U V k ++ [V k] else recs U V k
theorem recs_yes {U : Nat → Bool} {V : Nat → Int} {k : Nat} (h : U k = true) : recs U V (k + 1) = recs U V k ++ [V k] := by rw [recs, if_pos h]
theorem recs_no {U : Nat → Bool} {V : Nat → Int} {k : Nat} (h : U k = false) : recs U V (k + 1) = recs U V k := by rw [recs, h]; rfl
theorem recs_le (U : Nat → Bool) (V : Nat → Int) (k : Nat) : (recs U V k).length ≤ k := by
  induction k with
  | zero => exact Nat.le_refl _
  | succ k ih =>
    cases h : U k with
    | true => rw [recs_yes h]; simp; exact ih
    | false => rw [recs_no h]; omega
/-- Place j of a list of numbers. -/
def getI (l : List Int) (j : Nat) : Int := l.getD j 0
/-- The cells of a list of numbers. -/
def cellsI (l : List Int) : List Value := intList (getI l) l.length
theorem cellsI_snoc (l : List Int) (x : Int) : cellsI (l ++ [x]) = cellsI l ++ [.int .i64 x] := by
  unfold cellsI
  rw [List.length_append, List.length_singleton, intList_succ]
  congr 1
  · unfold intList
    refine List.map_congr_left fun j hj => ?_
    have hj' : j < l.length := by simpa using hj
    simp [getI, List.getElem?_append_left hj']
  · simp [getI]
theorem cellsI_nil : cellsI [] = [] := rfl

end Go.Proofs.YtfbooamjddnagaaDoor

namespace Go.Proofs.YtfbooamjddnagaaDoor
open Go.RowKit

theorem wpList_append_any {P : Program} (w : World) {ops : Array Oper} {rest : List Oper} {o : Oper} {a : Act} {Q : Exit → Act → World → Prop}
    (hg : o.guard = none) (s x : Operand) (t : TypeId) (hop : o.op = Op.call { callee := Callee.builtin Builtin.append, args := #[s, x], argTypes := #[t, t] })
    (base : Nat) (e : TypeId) (i : TypeInfo) (z : Value) (size bytes : Nat) (h1 : P.underlying t = some (.slice e)) (h2 : P.info? e = some i) (h3 : i.zero = some z) (h4 : i.size = size) (h5 : i.bytes = bytes) (h6 : z.cells.size = size) (h7 : 0 < size)
    (v : Value) (n : Nat) (xs : List Value) (hs : a.eval s = v) (h : w.ownsRow base e size v n xs)
    (sa : Option Addr) (m c : Nat) (news : List Value) (hx : a.eval x = .slice sa m c) (hnil : sa = none → m = 0 ∧ c = 0) (hn : news.length = m * size) (hc : ∀ ad, sa = some ad → ∀ j u, news[j]? = some u → w.cell? (ad.add j) = some u) (h1c : ∀ u ∈ news, u.oneCell' = true)
    (b1 : n + m ≤ maxLen) (b2 : (n + m) * bytes ≤ 140737488355328) (hbase : base ≤ w.heap.size)
    (hK : ∀ v' w', w'.ownsRow base e size v' (n + m) (xs ++ news) → w.grownBy w' v.ownBlock → wpList P ops Q rest (a.put o.dst v') w') :
    wpList P ops Q (o :: rest) a w := by
  cases sa with
  | none =>
    obtain ⟨rfl, rfl⟩ := hnil rfl
    have hnews : news = [] := List.eq_nil_of_length_eq_zero (by simpa using hn)
    subst hnews
    refine wpList_append_own_none hg s x t hop base e i size h1 h2 v n xs hs h hx (hK v w ?_ (World.grownBy.refl w _))
    rw [Nat.add_zero, List.append_nil]; exact h
  | some ad =>
    refine wpList_append_own w hg s x t hop base e i z size bytes h1 h2 h3 h4 h5 h6 h7 v n xs hs h ad m c news hx hn (hc ad rfl) h1c b1 b2 hbase ?_
    intro v' w' ho hgr _
    exact hK v' w' ho hgr

theorem ints_cells {w : World} {ao : Option Addr} {ls : List Int} (h : IntsAt w ao ls.length (getI ls)) : ∀ ad, ao = some ad → ∀ j u, (cellsI ls)[j]? = some u → w.cell? (ad.add j) = some u := by
  intro ad e j u hu
  obtain ⟨hj, rfl⟩ := intList_get _ _ _ _ hu
  obtain ⟨b, off, e2, hc⟩ := h j hj
  rw [e] at e2
  cases e2
  rw [Addr.add_lit]
  exact hc
theorem cellsI_length (ls : List Int) : (cellsI ls).length = ls.length := by unfold cellsI; exact intList_length _ _
theorem cellsI_one (ls : List Int) : ∀ u ∈ cellsI ls, u.oneCell' = true := intList_one _ _
theorem cellsI_append (a b : List Int) : cellsI (a ++ b) = cellsI a ++ cellsI b := by
  have key : ∀ l : List Int, cellsI l = l.map (fun x => .int .i64 x) := by
    intro l
    unfold cellsI intList getI
    apply List.ext_getElem?
    intro i
    by_cases hi : i < l.length
    · rw [List.getElem?_map, List.getElem?_range hi, List.getElem?_map, List.getElem?_eq_getElem hi]
      simp [List.getD_eq_getElem?_getD, List.getElem?_eq_getElem hi]
    · rw [List.getElem?_eq_none (by simpa using hi), List.getElem?_eq_none (by simpa using hi)]
  rw [key, key, key, List.map_append]
theorem own_legs {w : World} {base e c : Nat} {ao : Option Addr} {ls : List Int} {n : Nat} (hn : ls.length = n) (h : w.ownsRow base e 1 (.slice ao n c) n (cellsI ls)) : IntsAt w ao n (getI ls) := by
  subst hn
  exact own_ints h

end Go.Proofs.YtfbooamjddnagaaDoor
