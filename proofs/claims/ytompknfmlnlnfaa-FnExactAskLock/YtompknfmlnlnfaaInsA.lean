/-
  OWN TEXT: slices.Insert at any place of an own row of Asked: the row with one more at its place, as an own row.
-/
import Derived.Test.YtompknfmlnlnfaaInsG
namespace Go.Proofs.Ytompknfmlnlnfaa
open Go.RowKit Go.Lib

def setL : Nat → List Value → List Value → List Value
  | _, [], ys => ys
  | o, v :: r, ys => setL (o + 1) r (ys.set o v)
theorem setL_eq : ∀ (vs : List Value) (o : Nat) (ys : List Value), o + vs.length ≤ ys.length → setL o vs ys = ys.take o ++ vs ++ ys.drop (o + vs.length)
  | [], o, ys, _ => by simp [setL]
  | v :: r, o, ys, h => by
    have hl : o + 1 + r.length ≤ ys.length := by simp only [List.length_cons] at h; omega
    rw [setL, setL_eq r (o + 1) (ys.set o v) (by rw [List.length_set]; exact hl)]
    have e1 : (ys.set o v).take (o + 1) = ys.take o ++ [v] := by
      rw [List.take_add_one, List.take_set_of_le (Nat.le_refl o), List.getElem?_set_self (by omega)]; rfl
    have e2 : (ys.set o v).drop (o + 1 + r.length) = ys.drop (o + (v :: r).length) := by
      rw [List.drop_set_of_lt (by omega), List.length_cons]; congr 1; omega
    rw [e1, e2, List.append_assoc, List.append_assoc, List.append_assoc, List.singleton_append, List.cons_append]
/-- Several stores into an own row. -/
theorem own_setCells {base e size g n cap : Nat} : ∀ (vs : List Value) (o : Nat) (w : World) (ys : List Value), w.ownsRow base e size (.slice (some ⟨g, 0, none⟩) n cap) n ys → (w.setCells g o vs).ownsRow base e size (.slice (some ⟨g, 0, none⟩) n cap) n (setL o vs ys) ∧ w.grownBy (w.setCells g o vs) (some g)
  | [], o, w, ys, h => ⟨h, World.grownBy.refl _ _⟩
  | v :: r, o, w, ys, h => by
    obtain ⟨h1, g1⟩ := h.stored o v
    obtain ⟨h2, g2⟩ := own_setCells r (o + 1) _ _ h1
    exact ⟨h2, ⟨g2.os.trans g1.os, g2.tape.trans g1.tape, g2.output.trans g1.output, Nat.le_trans g1.size g2.size, fun k hk hne => (g2.block k (Nat.lt_of_lt_of_le hk g1.size) hne).trans (g1.block k hk hne)⟩⟩
/-- An own row with room, as one that is longer. -/
theorem own_wider {w : World} {base e size g n m cap : Nat} {xs : List Value} (h : w.ownsRow base e size (.slice (some ⟨g, 0, none⟩) n cap) n xs) (h1 : n ≤ m) (h2 : m ≤ cap) :
    ∃ ys, w.ownsRow base e size (.slice (some ⟨g, 0, none⟩) m cap) m ys ∧ ys.length = m * size ∧ ys.take (n * size) = xs := by
  rcases h.2 with ⟨h', _⟩ | ⟨g', cap', cur, h', hb, hg, hnc, hcm, hcs, htake⟩
  · simp at h'
  · simp only [Value.slice.injEq, Option.some.injEq, Addr.mk.injEq, and_true, true_and] at h'
    obtain ⟨rfl, rfl⟩ := h'
    have hl : (cur.toList.take (m * size)).length = m * size := by
      rw [List.length_take, Array.length_toList, hcs]
      exact Nat.min_eq_left (Nat.mul_le_mul_right _ h2)
    refine ⟨cur.toList.take (m * size), ⟨hl, .inr ⟨g, cap, cur, rfl, hb, hg, h2, hcm, hcs, rfl⟩⟩, hl, ?_⟩
    rw [List.take_take, Nat.min_eq_left (Nat.mul_le_mul_right _ h1)]
    exact htake

/-- What Insert makes of a list of cells, two an element. -/
def insC (xs : List Value) (i : Nat) (x : Int) (s : Bool) : List Value := xs.take (i * 2) ++ [.int .i64 x, .bool s] ++ xs.drop (i * 2)

theorem insC_shift {ys xs : List Value} {n i : Nat} {x : Int} {s : Bool} (hy : ys.length = (n + 1) * 2) (hx : xs.length = n * 2) (ht : ys.take (n * 2) = xs) (hi : i < n) :
    setL (i * 2) [.int .i64 x, .bool s] (setL ((i + 1) * 2) (xs.drop (i * 2)) ys) = insC xs i x s := by
  have hd : (xs.drop (i * 2)).length = (n - i) * 2 := by rw [List.length_drop, hx]; omega
  rw [setL_eq _ ((i + 1) * 2) ys (by rw [hd, hy]; omega), setL_eq _ _ _ (by simp only [List.length_append, List.length_take, List.length_drop, hy, hx, List.length_cons, List.length_nil]; omega)]
  unfold insC
  have e1 : ys.drop ((i + 1) * 2 + (xs.drop (i * 2)).length) = [] := List.drop_eq_nil_of_le (by rw [hd, hy]; omega)
  rw [e1, List.append_nil]
  have e2 : (ys.take ((i + 1) * 2) ++ xs.drop (i * 2)).take (i * 2) = xs.take (i * 2) := by
    rw [List.take_append_of_le_length (by rw [List.length_take, hy]; omega), List.take_take, ← ht, List.take_take]
    congr 1
    omega
  have e3 : (ys.take ((i + 1) * 2) ++ xs.drop (i * 2)).drop (i * 2 + [Value.int .i64 x, Value.bool s].length) = xs.drop (i * 2) := by
    rw [show i * 2 + [Value.int .i64 x, Value.bool s].length = (ys.take ((i + 1) * 2)).length by rw [List.length_take, hy]; simp only [List.length_cons, List.length_nil]; omega]
    exact List.drop_left
  rw [e2, e3]

theorem insC_grow {zs xs : List Value} {n i : Nat} {x : Int} {s : Bool} (hz : zs.length = (n + 1 - i) * 2) (hx : xs.length = n * 2) (hi : i < n) :
    setL ((i + 1) * 2) (xs.drop (i * 2)) (setL (i * 2) [.int .i64 x, .bool s] (xs.take (i * 2) ++ zs)) = insC xs i x s := by
  have ht : (xs.take (i * 2)).length = i * 2 := by rw [List.length_take, hx]; omega
  have hd : (xs.drop (i * 2)).length = (n - i) * 2 := by rw [List.length_drop, hx]; omega
  rw [setL_eq _ (i * 2) _ (by simp only [List.length_append, ht, hz, List.length_cons, List.length_nil]; omega)]
  have e1 : (xs.take (i * 2) ++ zs).take (i * 2) = xs.take (i * 2) := by
    have := List.take_left (l₁ := xs.take (i * 2)) (l₂ := zs)
    rwa [ht] at this
  rw [e1]
  have hl : (xs.take (i * 2) ++ [Value.int .i64 x, Value.bool s]).length = (i + 1) * 2 := by rw [List.length_append, ht]; simp only [List.length_cons, List.length_nil]; omega
  rw [setL_eq _ _ _ (by simp only [List.length_append, List.length_drop, ht, hz, hd, List.length_cons, List.length_nil]; omega)]
  have e2 : ((xs.take (i * 2) ++ [Value.int .i64 x, Value.bool s]) ++ (xs.take (i * 2) ++ zs).drop (i * 2 + [Value.int .i64 x, Value.bool s].length)).take ((i + 1) * 2) = xs.take (i * 2) ++ [.int .i64 x, .bool s] := by
    rw [← hl]
    exact List.take_left
  rw [e2]
  have e3 : ((xs.take (i * 2) ++ [Value.int .i64 x, Value.bool s]) ++ (xs.take (i * 2) ++ zs).drop (i * 2 + [Value.int .i64 x, Value.bool s].length)).drop ((i + 1) * 2 + (xs.drop (i * 2)).length) = [] := by
    apply List.drop_eq_nil_of_le
    simp only [List.length_append, List.length_drop, ht, hz, hd, List.length_cons, List.length_nil]
    omega
  rw [e3, List.append_nil]
  rfl

theorem insC_end {xs : List Value} {n : Nat} {x : Int} {s : Bool} (hx : xs.length = n * 2) : insC xs n x s = xs ++ [.int .i64 x, .bool s] := by
  unfold insC
  rw [List.take_of_length_le (by omega), List.drop_eq_nil_of_le (by omega), List.append_nil]

/-- slices.Insert at a place of an own row. -/
theorem insertA_any (ao : Option Addr) (n c i base vb : Nat) (x : Int) (s : Bool) (xs : List Value) (w : World) (hi : i ≤ n) (hn : n ≤ 1048576) (ho : w.ownsRow base 65 2 (.slice ao n c) n xs) (h1c : ∀ v ∈ xs, v.oneCell' = true)
    (hv : w.heap[vb]? = some (.cells #[.int .i64 x, .bool s] 65 (0, 0))) (hvb : (Value.slice ao n c).ownBlock ≠ some vb) (hb : base ≤ w.heap.size) :
    Calls Try.prog 81 #[.slice ao n c, .int .i64 i, .slice (some ⟨vb, 0, none⟩) 1 1] w fun e w' => ∃ v, e = .returned v ∧ w'.ownsRow base 65 2 v (n + 1) (insC xs i x s) ∧ w.grownBy w' (Value.slice ao n c).ownBlock ∧ (∀ g, v.ownBlock = some g → (Value.slice ao n c).ownBlock = some g ∨ w.heap.size ≤ g) := by
  by_cases hin : i = n
  · subst hin
    refine (insertA_end ao i c base vb x s xs w hn ho hv hb).mono fun e w' h => ?_
    rw [insC_end ho.1]
    exact h
  · have hi : i < n := by omega
    obtain ⟨g, rfl, hg1, hg2⟩ := own_addr ho (by omega)
    have hne : vb ≠ g := fun h => hvb (by rw [h]; rfl)
    have hlen : xs.length = n * 2 := ho.1
    have hcs : ∀ j v, xs[j]? = some v → w.cell? ⟨g, j, none⟩ = some v := fun j v hj => by
      have hjl : j < n * 2 := by rw [← hlen]; exact (List.getElem?_eq_some_iff.1 hj).1
      rw [ho.cellAt j hjl]; exact hj
    obtain ⟨_, _, e', hnc, hcm, _⟩ := own_form ho
    simp only [Value.slice.injEq, true_and] at e'
    obtain ⟨_, rfl⟩ := e'
    by_cases hroom : n + 1 ≤ c
    · obtain ⟨ys, hoy, hyl, hyt⟩ := own_wider ho (Nat.le_succ n) hroom
      obtain ⟨cur, hcur, hcl⟩ : ∃ cur : Array Value, w.heap[g]? = some (.cells cur 65 (0, 0)) ∧ cur.size = c * 2 := by
        rcases ho.2 with ⟨h', _⟩ | ⟨g', cap', cur, h', _, hg, _, _, hcs, _⟩
        · simp at h'
        · simp only [Value.slice.injEq, Option.some.injEq, Addr.mk.injEq, and_true, true_and] at h'
          obtain ⟨rfl, rfl⟩ := h'
          exact ⟨cur, hg, hcs⟩
      refine (insertA_shift g n c i vb x s xs w hi hroom hn (by unfold maxLen at hcm; omega) hne hlen hcs (fun j hj => by rw [hoy.cellAt j hj, List.getElem?_eq_getElem (by omega)]; rfl) (fun j _ => blk_free hcur j) hv h1c 65 cur.size (by simp [World.shape?, hcur]) (by omega)).mono ?_
      rintro e w' ⟨rfl, rfl⟩
      have hd : w.drew.ownsRow base 65 2 (.slice (some ⟨g, 0, none⟩) (n + 1) c) (n + 1) ys := hoy
      obtain ⟨o1, g1⟩ := own_setCells (xs.drop (i * 2)) ((i + 1) * 2) w.drew ys hd
      obtain ⟨o2, g2⟩ := own_setCells [.int .i64 x, .bool s] (i * 2) _ _ o1
      rw [insC_shift hyl hlen hyt hi] at o2
      exact ⟨_, rfl, o2, ⟨g2.os.trans g1.os, g2.tape.trans g1.tape, g2.output.trans g1.output, Nat.le_trans g1.size g2.size, fun k hk hne => (g2.block k (Nat.lt_of_lt_of_le hk g1.size) hne).trans (g1.block k hk hne)⟩, fun _ h => .inl h⟩
    · refine (insertA_grow g n c i vb x s xs w hi hnc (by omega) hn hlen hcs hv h1c).mono ?_
      rintro e w' ⟨rfl, rfl⟩
      obtain ⟨G, hG⟩ : ∃ G, G = grownCap w (n + 1) c 65 := ⟨_, rfl⟩
      have hGn : n + 1 ≤ G := by rw [hG]; exact grownCap_ge w _ _ _
      have hGm : G ≤ maxLen := by rw [hG]; exact grownCap_le_maxLen w (n + 1) c 65 (by unfold maxLen; omega)
      rw [← hG]
      have hzl : ∀ k, (Builtin.zeroCells (Value.agg #[.int .i64 0, .bool false]).cells k).size = k * 2 := fun k => by simp [Builtin.zeroCells, Value.cells]; try omega
      have hA : (w.alloc (.cells ((xs.take (i * 2)).toArray ++ Builtin.zeroCells (Value.agg #[.int .i64 0, .bool false]).cells (n + 1 - i) ++ Builtin.zeroCells (Value.agg #[.int .i64 0, .bool false]).cells (G - (n + 1))) 65)).drew.ownsRow base 65 2 (.slice (some ⟨w.heap.size, 0, none⟩) (n + 1) G) (n + 1) (xs.take (i * 2) ++ (Builtin.zeroCells (Value.agg #[.int .i64 0, .bool false]).cells (n + 1 - i)).toList) := by
        have ht : (xs.take (i * 2)).length = i * 2 := by rw [List.length_take, hlen]; omega
        have hl : (xs.take (i * 2) ++ (Builtin.zeroCells (Value.agg #[.int .i64 0, .bool false]).cells (n + 1 - i)).toList).length = (n + 1) * 2 := by
          rw [List.length_append, ht, Array.length_toList, hzl]; omega
        refine ⟨hl, .inr ⟨w.heap.size, G, _, rfl, hb, heap_alloc_new w _, hGn, hGm, ?_, ?_⟩⟩
        · rw [Array.size_append, Array.size_append, hzl, hzl, List.size_toArray, ht]; omega
        · rw [Array.toList_append, Array.toList_append, List.toList_toArray, ← hl]
          exact List.take_left
      have hbl := push (Below.refl w.heap.size w) (.cells ((xs.take (i * 2)).toArray ++ Builtin.zeroCells (Value.agg #[.int .i64 0, .bool false]).cells (n + 1 - i) ++ Builtin.zeroCells (Value.agg #[.int .i64 0, .bool false]).cells (G - (n + 1))) 65)
      generalize w.alloc (.cells ((xs.take (i * 2)).toArray ++ Builtin.zeroCells (Value.agg #[.int .i64 0, .bool false]).cells (n + 1 - i) ++ Builtin.zeroCells (Value.agg #[.int .i64 0, .bool false]).cells (G - (n + 1))) 65) = WA at hA hbl ⊢
      obtain ⟨o1, g1⟩ := own_setCells [.int .i64 x, .bool s] (i * 2) _ _ hA
      generalize WA.drew.setCells w.heap.size (i * 2) [.int .i64 x, .bool s] = WB at o1 g1 ⊢
      obtain ⟨o2, g2⟩ := own_setCells (xs.drop (i * 2)) ((i + 1) * 2) WB.drew _ (show WB.drew.ownsRow _ _ _ _ _ _ from o1)
      rw [insC_grow (by rw [Array.length_toList, hzl]) hlen hi] at o2
      have s1 : WA.heap.size ≤ WB.heap.size := g1.size
      have s2 : WB.heap.size ≤ (WB.drew.setCells w.heap.size ((i + 1) * 2) (xs.drop (i * 2))).heap.size := g2.size
      have s0 := hbl.size
      refine ⟨_, rfl, o2, ⟨g2.os.trans (g1.os.trans hbl.os), g2.tape.trans (g1.tape.trans hbl.tape), g2.output.trans (g1.output.trans hbl.output), by omega, fun k hk hne => ?_⟩, fun g h => .inr (by simp only [Value.ownBlock, Option.some.injEq] at h; omega)⟩
      have hkn : some k ≠ some w.heap.size := fun h => by cases h; omega
      have b2 : _ = WB.heap[k]? := g2.block k (show k < WB.heap.size by omega) hkn
      have b1 : WB.heap[k]? = WA.heap[k]? := g1.block k (show k < WA.heap.size by omega) hkn
      exact b2.trans (b1.trans (hbl.block k hk))

end Go.Proofs.Ytompknfmlnlnfaa
