/-
  OWN TEXT: small words for walks, fifth part: worlds that have drawn, rows of an answer, a slot that is used.
-/
import Derived.Test.YtclcjnbjpelcjaaKit4
import Derived.Test.YtclcjnbjpelcjaaOwn1
import Derived.Test.YtclcjnbjpelcjaaPlain6
import Derived.Deep.DeepCutAuto
namespace Go.Proofs.Ytclcjnbjpelcjaa
open Go.RowKit

theorem low_undrew {w w' : World} (h : Below w.drew.heap.size w.drew w') : Below w.heap.size w w' := ⟨h.os, h.tape, h.output, h.size, h.block⟩
theorem low_set {W w : World} {b i : Nat} (h : Below W.heap.size W w) (hb : W.heap.size ≤ b) (u : Value) : Below W.heap.size W (w.setCell ⟨b, i, none⟩ u) := h.setCell hb u
theorem kept_drew {w w' : World} {S : Nat → Prop} (h : Kept w w' S) : Kept w w'.drew S := ⟨h.os, h.tape, h.output, h.size, h.block⟩
theorem kept_undrew {w w' : World} {S : Nat → Prop} (h : Below w.drew.heap.size w.drew w') : Kept w w' S := ⟨h.os, h.tape, h.output, h.size, fun i hi _ => h.block i hi⟩
theorem kept_grown {w w' : World} {S : Nat → Prop} {row : Option Nat} (h : w.grownBy w' row) (hs : ∀ b, row = some b → S b) : Kept w w' S := ⟨h.os, h.tape, h.output, h.size, fun i hi hn => h.block i hi (fun e => hn (hs i e.symm))⟩

/-- The lists of an answer, as a reader may read them; empty ones may have room. -/
def OutLoose (w : World) (base : Nat) (v1 v2 : Value) (o : Out) : Prop :=
  LooseRow w base 106 3 v1 o.n (slotList o.A o.U o.V o.n) ∧ LooseRow w base 3 1 v2 o.m (intList o.F o.m)
/-- The lists of an answer, owned. -/
def OutHeld (w : World) (base : Nat) (v1 v2 : Value) (o : Out) : Prop :=
  w.ownsRow base 106 3 v1 o.n (slotList o.A o.U o.V o.n) ∧ w.ownsRow base 3 1 v2 o.m (intList o.F o.m)

theorem put_put {α : Type} (f : Nat → α) (q : Nat) (x u : α) : put (put f q x) q u = put f q u := by
  funext i; unfold put; by_cases h : i = q
  · rw [if_pos h, if_pos h]
  · rw [if_neg h, if_neg h, if_neg h]
theorem slotList_put (A : Nat → Int) (U : Nat → Bool) (V : Nat → Int) (n : Nat) (a v : Int) (b : Bool) : slotList (put A n a) (put U n b) (put V n v) (n + 1) = slotList A U V n ++ [.int .i64 a, .bool b, .int .i64 v] := by
  rw [slotList_succ, put_at, put_at, put_at]
  congr 1
  unfold slotList
  refine List.map_congr_left fun j hj => ?_
  have hj' : j < n * 3 := by simpa using hj
  have hk : j / 3 ≠ n := by omega
  unfold slotCell
  rw [put_ne _ _ _ _ hk, put_ne _ _ _ _ hk, put_ne _ _ _ _ hk]
/-- A slot is used, in an owned row. -/
theorem own_used {w : World} {base e n c g q : Nat} {A : Nat → Int} {U : Nat → Bool} {V : Nat → Int} {u : Int} (h : w.ownsRow base e 3 (.slice (some ⟨g, 0, none⟩) n c) n (slotList A U V n)) :
    ((w.setCell ⟨g, q * 3 + 1, none⟩ (.bool true)).setCell ⟨g, q * 3 + 2, none⟩ (.int .i64 u)).ownsRow base e 3 (.slice (some ⟨g, 0, none⟩) n c) n (slotList A (put U q true) (put V q u) n) := by
  refine own_congr (own_store (own_store h (q * 3 + 1) _) (q * 3 + 2) _) fun j _ => ?_
  by_cases h2 : j = q * 3 + 2
  · subst h2; rw [if_pos rfl, slotCell_2, put_at]
  · rw [if_neg h2]
    by_cases h1 : j = q * 3 + 1
    · subst h1; rw [if_pos rfl, slotCell_1, put_at]
    · rw [if_neg h1]
      by_cases h0 : j = q * 3
      · subst h0; rw [slotCell_0, slotCell_0]
      · have hk : j / 3 ≠ q := by omega
        unfold slotCell
        rw [put_ne _ _ _ _ hk, put_ne _ _ _ _ hk]

/-- append onto a slice that is empty, or an owned row. -/
theorem wpList_append_row {P : Program} (w : World) {ops : Array Oper} {rest : List Oper} {o : Oper} {a : Act} {Q : Exit → Act → World → Prop}
    (hg : o.guard = none) (s x : Operand) (t : TypeId) (hop : o.op = Op.call { callee := Callee.builtin Builtin.append, args := #[s, x], argTypes := #[t, t] })
    (base : Nat) (e : TypeId) (i : TypeInfo) (z : Value) (size bytes : Nat) (h1 : P.underlying t = some (.slice e)) (h2 : P.info? e = some i) (h3 : i.zero = some z) (h4 : i.size = size) (h5 : i.bytes = bytes) (h6 : z.cells.size = size) (h7 : 0 < size)
    (ao : Option Addr) (n cap : Nat) (xs : List Value) (hxs : xs.length = n * size) (hs : a.eval s = .slice ao n cap) (h : SpecRow w base e size (.slice ao n cap) n xs)
    (ad : Addr) (m c : Nat) (news : List Value) (hx : a.eval x = .slice (some ad) m c) (hn : news.length = m * size) (hc : ∀ j u, news[j]? = some u → w.cell? (ad.add j) = some u) (h1c : ∀ u ∈ news, u.oneCell' = true)
    (hm : 0 < m) (b1 : n + m ≤ maxLen) (b2 : (n + m) * bytes ≤ 140737488355328) (hbase : base ≤ w.heap.size)
    (hK : ∀ g cap' w' row, w'.ownsRow base e size (.slice (some ⟨g, 0, none⟩) (n + m) cap') (n + m) (xs ++ news) → w.grownBy w' row → (∀ b, row = some b → w.ownsRow base e size (.slice ao n cap) n xs ∧ (Value.slice ao n cap).ownBlock = some b) → wpList P ops Q rest (a.put o.dst (.slice (some ⟨g, 0, none⟩) (n + m) cap')) w') :
    wpList P ops Q (o :: rest) a w := by
  rcases h with ⟨h0, ao', hv⟩ | ⟨h0, ho⟩
  · subst h0
    simp only [Value.slice.injEq, true_and] at hv
    obtain ⟨_, rfl⟩ := hv
    obtain rfl : xs = [] := List.eq_nil_of_length_eq_zero (by simpa using hxs)
    refine wpList_append_grows w hg s x t hop e i z size bytes h1 h2 h3 h4 h5 h6 h7 ao 0 0 [] hs (fun _ => ⟨rfl, rfl⟩) (by simp) (by simp) ad m c news hx hn hc h1c (by omega) b1 b2 ?_
    intro v' w' ho hgr
    obtain ⟨g, cap', rfl, _, _⟩ := ho.form (by omega)
    exact hK g cap' w' none (own_base ho hbase) hgr (by simp)
  · exact wpList_append_lies w hg s x t hop base e i z size bytes h1 h2 h3 h4 h5 h6 h7 _ n xs hs ho ad m c news hx hn hc h1c hm b1 b2 hbase _ rfl (fun g cap' w' ho' hgr _ _ => hK g cap' w' _ ho' hgr (fun b hb => ⟨ho, hb⟩))

/-- The end of a function that hands back two structs of two cells: both are moved into their boxes. -/
theorem two_boxes {w X : World} {tA tH : Nat} {x1 x2 x3 x4 : Value} (v1 v2 v3 v4 : Value) (hR : X.heap[w.heap.size + 1]? = some (.cells #[x1, x2] tA (0, 0))) (hH : X.heap[w.heap.size + 1 + 1]? = some (.cells #[x3, x4] tH (0, 0))) (hb : Below w.heap.size w X) (F : World)
    (hF : (((X.setCell ⟨w.heap.size + 1, 0, none⟩ v1).setCell ⟨w.heap.size + 1, 1, none⟩ v2).setCell ⟨w.heap.size + 1 + 1, 0, none⟩ v3).setCell ⟨w.heap.size + 1 + 1, 1, none⟩ v4 = F) :
    F.cell? ⟨w.heap.size + 1, 0, none⟩ = some v1 ∧ F.cell? ⟨w.heap.size + 1, 1, none⟩ = some v2 ∧ F.cell? ⟨w.heap.size + 1 + 1, 0, none⟩ = some v3 ∧ F.cell? ⟨w.heap.size + 1 + 1, 1, none⟩ = some v4 ∧ Below w.heap.size w F ∧
      (∀ base e size v n xs, w.heap.size + 1 + 1 < base → LooseRow X base e size v n xs → LooseRow F w.heap.size e size v n xs) ∧
      (∀ base e size v n xs, w.heap.size + 1 + 1 < base → X.ownsRow base e size v n xs → F.ownsRow w.heap.size e size v n xs) := by
  subst hF
  have rR := blk_set_other (blk_set_other (blk_set (blk_set hR 0 v1) 1 v2) (b' := w.heap.size + 1 + 1) 0 v3 (by omega)) (b' := w.heap.size + 1 + 1) 1 v4 (by omega)
  have rH := blk_set (blk_set (blk_set_other (blk_set_other hH (b' := w.heap.size + 1) 0 v1 (by omega)) (b' := w.heap.size + 1) 1 v2 (by omega)) 0 v3) 1 v4
  refine ⟨blk_cell rR 0 _ rfl, blk_cell rR 1 _ rfl, blk_cell rH 0 _ rfl, blk_cell rH 1 _ rfl, ?_, ?_, ?_⟩
  · exact (((hb.setCell (by show w.heap.size ≤ w.heap.size + 1; omega) _).setCell (by show w.heap.size ≤ w.heap.size + 1; omega) _).setCell (by show w.heap.size ≤ w.heap.size + 1 + 1; omega) _).setCell (by show w.heap.size ≤ w.heap.size + 1 + 1; omega) _
  · intro base e size v n xs hl h
    exact LooseRow.base ((((h.set (by show w.heap.size + 1 < base; omega) _).set (by show w.heap.size + 1 < base; omega) _).set (by show w.heap.size + 1 + 1 < base; omega) _).set (by show w.heap.size + 1 + 1 < base; omega) _) (by omega)
  · intro base e size v n xs hl h
    exact own_base (own_set (own_set (own_set (own_set h (by show w.heap.size + 1 < base; omega) _) (by show w.heap.size + 1 < base; omega) _) (by show w.heap.size + 1 + 1 < base; omega) _) (by show w.heap.size + 1 + 1 < base; omega) _) (by omega)

/-- .. in a world that has drawn. -/
theorem two_boxes_drew {w X : World} {tA tH : Nat} {x1 x2 x3 x4 : Value} (v1 v2 v3 v4 : Value) (hR : X.heap[w.heap.size + 1]? = some (.cells #[x1, x2] tA (0, 0))) (hH : X.heap[w.heap.size + 1 + 1]? = some (.cells #[x3, x4] tH (0, 0))) (hb : Below w.heap.size w X) (F : World)
    (hF : ((((X.setCell ⟨w.heap.size + 1, 0, none⟩ v1).setCell ⟨w.heap.size + 1, 1, none⟩ v2).setCell ⟨w.heap.size + 1 + 1, 0, none⟩ v3).setCell ⟨w.heap.size + 1 + 1, 1, none⟩ v4).drew = F) :
    F.cell? ⟨w.heap.size + 1, 0, none⟩ = some v1 ∧ F.cell? ⟨w.heap.size + 1, 1, none⟩ = some v2 ∧ F.cell? ⟨w.heap.size + 1 + 1, 0, none⟩ = some v3 ∧ F.cell? ⟨w.heap.size + 1 + 1, 1, none⟩ = some v4 ∧ Below w.heap.size w F ∧
      (∀ base e size v n xs, w.heap.size + 1 + 1 < base → LooseRow X base e size v n xs → LooseRow F w.heap.size e size v n xs) ∧
      (∀ base e size v n xs, w.heap.size + 1 + 1 < base → X.ownsRow base e size v n xs → F.ownsRow w.heap.size e size v n xs) := by
  generalize hG : (((X.setCell ⟨w.heap.size + 1, 0, none⟩ v1).setCell ⟨w.heap.size + 1, 1, none⟩ v2).setCell ⟨w.heap.size + 1 + 1, 0, none⟩ v3).setCell ⟨w.heap.size + 1 + 1, 1, none⟩ v4 = G at hF
  subst hF
  obtain ⟨z0, z1, z2, z3, hb', hl, ho⟩ := two_boxes v1 v2 v3 v4 hR hH hb G hG
  exact ⟨z0, z1, z2, z3, hb'.drew, hl, ho⟩

end Go.Proofs.Ytclcjnbjpelcjaa
