/-
  OWN TEXT: the contract of spec.DropRecord.
-/
import Derived.Test.YtclcjnbjpelcjaaSpecSetK
import Derived.Test.YtclcjnbjpelcjaaGetI
import Derived.Test.YtclcjnbjpelcjaaPlain5
import Derived.Deep.DeepCutAuto
namespace Go.Proofs.Ytclcjnbjpelcjaa
open Go.RowKit

/-- A slot is dropped in an owned row. -/
theorem spec_drop {w : World} {base e n c g q : Nat} {A : Nat → Int} {U : Nat → Bool} {V : Nat → Int} {a : Int} (h : w.ownsRow base e 3 (.slice (some ⟨g, 0, none⟩) n c) n (slotList A U V n)) :
    (((w.setCell ⟨g, q * 3 + 1, none⟩ (.bool false)).setCell ⟨g, q * 3 + 2, none⟩ (.int .i64 0)).setCell ⟨g, q * 3, none⟩ (.int .i64 a)).ownsRow base e 3 (.slice (some ⟨g, 0, none⟩) n c) n (slotList (put A q a) (put U q false) (put V q 0) n) := by
  refine own_congr (own_store (own_store (own_store h (q * 3 + 1) _) (q * 3 + 2) _) (q * 3) _) fun j _ => ?_
  by_cases h0 : j = q * 3
  · subst h0; rw [if_pos rfl, slotCell_0, put_at]
  · rw [if_neg h0]
    by_cases h2 : j = q * 3 + 2
    · subst h2; rw [if_pos rfl, slotCell_2, put_at]
    · rw [if_neg h2]
      by_cases h1 : j = q * 3 + 1
      · subst h1; rw [if_pos rfl, slotCell_1, put_at]
      · rw [if_neg h1]
        have hk : j / 3 ≠ q := by omega
        unfold slotCell
        rw [put_ne _ _ _ _ hk, put_ne _ _ _ _ hk, put_ne _ _ _ _ hk]
theorem intList_put (F : Nat → Int) (m : Nat) (x : Int) : intList (put F m x) (m + 1) = intList F m ++ [.int .i64 x] := by
  rw [intList_succ, put_at]
  congr 1
  unfold intList
  refine List.map_congr_left fun j hj => ?_
  have hj' : j < m := by simpa using hj
  rw [put_ne _ _ _ _ (by omega)]

/-- append onto a slice that is empty, or an owned row. -/
theorem wpList_append_spec {P : Program} (w : World) {ops : Array Oper} {rest : List Oper} {o : Oper} {a : Act} {Q : Exit → Act → World → Prop}
    (hg : o.guard = none) (s x : Operand) (t : TypeId) (hop : o.op = Op.call { callee := Callee.builtin Builtin.append, args := #[s, x], argTypes := #[t, t] })
    (base : Nat) (e : TypeId) (i : TypeInfo) (z : Value) (size bytes : Nat) (h1 : P.underlying t = some (.slice e)) (h2 : P.info? e = some i) (h3 : i.zero = some z) (h4 : i.size = size) (h5 : i.bytes = bytes) (h6 : z.cells.size = size) (h7 : 0 < size)
    (ao : Option Addr) (n cap : Nat) (xs : List Value) (hxs : xs.length = n * size) (hs : a.eval s = .slice ao n cap) (h : SpecRow w base e size (.slice ao n cap) n xs)
    (ad : Addr) (m c : Nat) (news : List Value) (hx : a.eval x = .slice (some ad) m c) (hn : news.length = m * size) (hc : ∀ j u, news[j]? = some u → w.cell? (ad.add j) = some u) (h1c : ∀ u ∈ news, u.oneCell' = true)
    (hm : 0 < m) (b1 : n + m ≤ maxLen) (b2 : (n + m) * bytes ≤ 140737488355328) (hbase : base ≤ w.heap.size)
    (hK : ∀ g cap' w' row, w'.ownsRow base e size (.slice (some ⟨g, 0, none⟩) (n + m) cap') (n + m) (xs ++ news) → w.grownBy w' row → (∀ b, row = some b → w.ownsRow base e size (.slice ao n cap) n xs ∧ (Value.slice ao n cap).ownBlock = some b) → wpList P ops Q rest (a.put o.dst (.slice (some ⟨g, 0, none⟩) (n + m) cap')) w') :
    wpList P ops Q (o :: rest) a w := by
  rcases h with ⟨h0, ao', hv⟩ | ⟨h0, ho⟩
  · subst h0
    simp only [Value.slice.injEq, true_and] at hv
    obtain ⟨_, rfl⟩ := hv
    obtain rfl : xs = [] := List.eq_nil_of_length_eq_zero (by simpa using hxs)
    refine wpList_append_grows w hg s x t hop e i z size bytes h1 h2 h3 h4 h5 h6 h7 ao 0 0 [] hs (fun _ => ⟨rfl, rfl⟩) (by simp) (by simp) ad m c news hx hn hc h1c (by omega) b1 b2 ?_
    intro v' w' ho hgr
    obtain ⟨g, cap', rfl, _, _⟩ := ho.form (by omega)
    exact hK g cap' w' none (own_base ho hbase) hgr (by simp)
  · exact wpList_append_lies w hg s x t hop base e i z size bytes h1 h2 h3 h4 h5 h6 h7 _ n xs hs ho ad m c news hx hn hc h1c hm b1 b2 hbase _ rfl (fun g cap' w' ho' hgr _ _ => hK g cap' w' _ ho' hgr (fun b hb => ⟨ho, hb⟩))

set_option maxHeartbeats 3200000 in
theorem specDrop_any (ao bo : Option Addr) (n m c1 c2 : Nat) (A : Nat → Int) (U : Nat → Bool) (V F : Nat → Int) (x a : Int) (w : World) (hn : n ≤ 1048576) (hm : m ≤ 1048576) (hcap : m ≤ c2) (hc2 : c2 ≤ 9223372036854775807) (hn1 : ao = none → n = 0 ∧ c1 = 0) (hn2 : bo = none → m = 0 ∧ c2 = 0)
    (hx : SlotsAt w ao n A U V) (hy : IntsAt w bo m F) :
    Calls Try.prog 120 #[.agg #[.slice ao n c1, .slice bo m c2], .agg #[.int .i64 x, .int .i64 a]] w fun e w' => ∃ ao' bo' d1 d2 o, e = .returned (.tuple #[.agg #[.slice ao' o.n d1, .slice bo' o.m d2], .int .i64 o.c]) ∧
      OutRows w' w.heap.size (.slice ao' o.n d1) (.slice bo' o.m d2) o ∧ Answers (Good n m A U V F) (dropOut n m A U V F x a) o ∧ Below w.heap.size w w' := by
  obtain ⟨j0, ji, jz0, jz1, jz2⟩ := info_parts Try.infoInt
  have h0 : Below w.heap.size w (((w.alloc (.cells #[.slice ao n c1, .slice bo m c2] 26)).alloc (.cells #[.int .i64 x, .int .i64 a] 30)).alloc (.cells #[.slice none 0 0, .slice none 0 0] 26)) := push (push (push (Below.refl _ _) _) _) _
  have hA0 : (((w.alloc (.cells #[.slice ao n c1, .slice bo m c2] 26)).alloc (.cells #[.int .i64 x, .int .i64 a] 30)).alloc (.cells #[.slice none 0 0, .slice none 0 0] 26)).heap[w.heap.size]? = some (.cells #[.slice ao n c1, .slice bo m c2] 26 (0, 0)) := blk_alloc (blk_alloc (heap_alloc_new w _) _) _
  have hH0 : (((w.alloc (.cells #[.slice ao n c1, .slice bo m c2] 26)).alloc (.cells #[.int .i64 x, .int .i64 a] 30)).alloc (.cells #[.slice none 0 0, .slice none 0 0] 26)).heap[w.heap.size + 1]? = some (.cells #[.int .i64 x, .int .i64 a] 30 (0, 0)) := blk_alloc (by simpa using heap_alloc_new (w.alloc _) _) _
  have hR0 : (((w.alloc (.cells #[.slice ao n c1, .slice bo m c2] 26)).alloc (.cells #[.int .i64 x, .int .i64 a] 30)).alloc (.cells #[.slice none 0 0, .slice none 0 0] 26)).heap[w.heap.size + 1 + 1]? = some (.cells #[.slice none 0 0, .slice none 0 0] 26 (0, 0)) := by simpa using heap_alloc_new ((w.alloc _).alloc _) _
  go_enter Try.func120, Try.ntmps120
  go_wp2_with fail
  refine (l1Fault_any ao bo n m c1 c2 A U V F x a _ hn hm hcap hc2 (hx.below h0) (hy.below h0)).mono ?_
  rintro e w1 ⟨c, rfl, hg, hng, hb1⟩
  have hbw1 := after h0 hb1
  have hA1 := blk_below hA0 hb1
  have hH1 := blk_below hH0 hb1
  have hR1 := blk_below hR0 hb1
  clear h0 hA0 hH0 hR0 hb1
  by_cases hgood : Good n m A U V F
  · obtain rfl : c = faultOf n A U x a := hg hgood
    have HG : Hid (Good n m A U V F) := hgood
    clear hg hng hgood
    have hf1 := fault_lo n A U x a
    have e1 : (faultOf n A U x a == 1) = false := by simpa using hf1.1
    have q0 := blk_cell hA1 0 _ rfl
    have q1 := blk_cell hA1 1 _ rfl
    go_wp2_with fail
    refine (l1Own_any ao bo n m c1 c2 A U V F _ hn hm hn1 hn2 (hx.below hbw1) (hy.below hbw1)).mono ?_
    rintro e w2 ⟨ao', bo', d1, d2, rfl, hd1, hd2, hd3, p1, p2, hb2⟩
    have hbw2 := after hbw1 hb2
    have hA2 := blk_below hA1 hb2
    have hH2 := blk_below hH1 hb2
    have hR2 := blk_below hR1 hb2
    have hlt := blk_lt hR1
    have hlt2 : w1.heap.size ≤ w2.heap.size := hb2.size
    clear hA1 hH1 hR1 hb2 hbw1 q0 q1
    have y0 := blk_cell hA2 0 _ rfl
    have y1 := blk_cell hA2 1 _ rfl
    have y2 := blk_free hA2 0
    have y3 := blk_free hA2 1
    have y4 := blk_cell hH2 0 _ rfl
    have y5 := blk_cell hR2 0 _ rfl
    have y6 := blk_cell hR2 1 _ rfl
    have y7 := blk_free hR2 0
    have y8 := blk_free hR2 1
    by_cases hf : faultOf n A U x a = 0
    · have ef : (faultOf n A U x a != 0) = false := by simpa using hf
      obtain ⟨q, rfl, hq, rfl, _⟩ := fault_zero hf
      have hage := good_age HG.out hq
      have hfew := good_few HG.out
      have hqn : (q : Int) < (n : Int) := by omega
      rcases p1 with ⟨hz, _⟩ | ⟨_, p1⟩
      · omega
      obtain ⟨g, rfl, hg1, hg2⟩ := own_addr p1 (by omega)
      have s0 := own_cell p1 (q * 3) (by omega) rfl
      have s1 := own_cell p1 (q * 3 + 1) (by omega) rfl
      have s2 := own_cell p1 (q * 3 + 2) (by omega) rfl
      rw [slotCell_0] at s0
      have sf0 := p1.frozenAt (q * 3)
      have sf1 := p1.frozenAt (q * 3 + 1)
      have sf2 := p1.frozenAt (q * 3 + 2)
      have n1 : ¬ (g = w.heap.size) := by omega
      have n2 : ¬ (g = w.heap.size + 1) := by omega
      have n3 : ¬ (g = w.heap.size + 1 + 1) := by omega
      go_upto_region 11 with fail
      have k1 := own_set (own_set p1 (a := ⟨w.heap.size, 0, none⟩) (by show w.heap.size < _; omega) (.slice (some ⟨g, 0, none⟩) n d1)) (a := ⟨w.heap.size, 1, none⟩) (by show w.heap.size < _; omega) (.slice bo' m d2)
      have k2 := SpecRow.set (SpecRow.set p2 (a := ⟨w.heap.size, 0, none⟩) (by show w.heap.size < _; omega) (.slice (some ⟨g, 0, none⟩) n d1)) (a := ⟨w.heap.size, 1, none⟩) (by show w.heap.size < _; omega) (.slice bo' m d2)
      have k3 := SpecRow.far (SpecRow.far (SpecRow.far k2 k1 (by decide) (q * 3 + 1) (.bool false)) (own_store k1 _ _) (by decide) (q * 3 + 2) (.int .i64 0)) (own_store (own_store k1 _ _) _ _) (by decide) (q * 3) (.int .i64 (A q + 1))
      have k4 := spec_drop (q := q) (a := A q + 1) k1
      have hA5 : (((((w2.setCell ⟨w.heap.size, 0, none⟩ (.slice (some ⟨g, 0, none⟩) n d1)).setCell ⟨w.heap.size, 1, none⟩ (.slice bo' m d2)).setCell ⟨g, q * 3 + 1, none⟩ (.bool false)).setCell ⟨g, q * 3 + 2, none⟩ (.int .i64 0)).setCell ⟨g, q * 3, none⟩ (.int .i64 (A q + 1))).heap[w.heap.size]? = some (.cells #[.slice (some ⟨g, 0, none⟩) n d1, .slice bo' m d2] 26 (0, 0)) := blk_set_other (blk_set_other (blk_set_other (blk_set (blk_set hA2 0 _) 1 _) _ _ (by omega)) _ _ (by omega)) _ _ (by omega)
      have hH5 : (((((w2.setCell ⟨w.heap.size, 0, none⟩ (.slice (some ⟨g, 0, none⟩) n d1)).setCell ⟨w.heap.size, 1, none⟩ (.slice bo' m d2)).setCell ⟨g, q * 3 + 1, none⟩ (.bool false)).setCell ⟨g, q * 3 + 2, none⟩ (.int .i64 0)).setCell ⟨g, q * 3, none⟩ (.int .i64 (A q + 1))).heap[w.heap.size + 1]? = some (.cells #[.int .i64 (q : Int), .int .i64 (A q)] 30 (0, 0)) := blk_set_other (blk_set_other (blk_set_other (blk_set_other (blk_set_other hH2 _ _ (by omega)) _ _ (by omega)) _ _ (by omega)) _ _ (by omega)) _ _ (by omega)
      have hR5 : (((((w2.setCell ⟨w.heap.size, 0, none⟩ (.slice (some ⟨g, 0, none⟩) n d1)).setCell ⟨w.heap.size, 1, none⟩ (.slice bo' m d2)).setCell ⟨g, q * 3 + 1, none⟩ (.bool false)).setCell ⟨g, q * 3 + 2, none⟩ (.int .i64 0)).setCell ⟨g, q * 3, none⟩ (.int .i64 (A q + 1))).heap[w.heap.size + 1 + 1]? = some (.cells #[.slice none 0 0, .slice none 0 0] 26 (0, 0)) := blk_set_other (blk_set_other (blk_set_other (blk_set_other (blk_set_other hR2 _ _ (by omega)) _ _ (by omega)) _ _ (by omega)) _ _ (by omega)) _ _ (by omega)
      have hbw5 : Below w.heap.size w (((((w2.setCell ⟨w.heap.size, 0, none⟩ (.slice (some ⟨g, 0, none⟩) n d1)).setCell ⟨w.heap.size, 1, none⟩ (.slice bo' m d2)).setCell ⟨g, q * 3 + 1, none⟩ (.bool false)).setCell ⟨g, q * 3 + 2, none⟩ (.int .i64 0)).setCell ⟨g, q * 3, none⟩ (.int .i64 (A q + 1))) := ((((hbw2.setCell (by show w.heap.size ≤ w.heap.size; omega) _).setCell (by show w.heap.size ≤ w.heap.size; omega) _).setCell (by show w.heap.size ≤ g; omega) _).setCell (by show w.heap.size ≤ g; omega) _).setCell (by show w.heap.size ≤ g; omega) _
      have hc5 : (((((w2.setCell ⟨w.heap.size, 0, none⟩ (.slice (some ⟨g, 0, none⟩) n d1)).setCell ⟨w.heap.size, 1, none⟩ (.slice bo' m d2)).setCell ⟨g, q * 3 + 1, none⟩ (.bool false)).setCell ⟨g, q * 3 + 2, none⟩ (.int .i64 0)).setCell ⟨g, q * 3, none⟩ (.int .i64 (A q + 1))).cell? ⟨g, q * 3, none⟩ = some (.int .i64 (A q + 1)) := by
        have := own_cell k4 (q * 3) (by omega) rfl
        rw [slotCell_0, put_at] at this
        exact this
      have hz5 : w1.heap.size ≤ (((((w2.setCell ⟨w.heap.size, 0, none⟩ (.slice (some ⟨g, 0, none⟩) n d1)).setCell ⟨w.heap.size, 1, none⟩ (.slice bo' m d2)).setCell ⟨g, q * 3 + 1, none⟩ (.bool false)).setCell ⟨g, q * 3 + 2, none⟩ (.int .i64 0)).setCell ⟨g, q * 3, none⟩ (.int .i64 (A q + 1))).heap.size := by simp; omega
      clear k1 k2 p1 p2 hA2 hH2 hR2 hbw2 y0 y1 y2 y3 y4 y5 y6 y7 y8 s0 s1 s2 sf0 sf1 sf2
      generalize (((((w2.setCell ⟨w.heap.size, 0, none⟩ (.slice (some ⟨g, 0, none⟩) n d1)).setCell ⟨w.heap.size, 1, none⟩ (.slice bo' m d2)).setCell ⟨g, q * 3 + 1, none⟩ (.bool false)).setCell ⟨g, q * 3 + 2, none⟩ (.int .i64 0)).setCell ⟨g, q * 3, none⟩ (.int .i64 (A q + 1))) = W at *
      have q0 := blk_cell hA5 0 _ rfl
      have q1 := blk_cell hA5 1 _ rfl
      have q2 := blk_free hA5 1
      have q3 := blk_cell hH5 0 _ rfl
      have q4 := blk_cell hR5 0 _ rfl
      have q5 := blk_cell hR5 1 _ rfl
      have q6 := blk_free hR5 0
      have q7 := blk_free hR5 1
      by_cases h9 : A q + 1 < 9
      · have HO : Hid (dropOut n m A U V F q (A q) = ⟨n, m + 1, put A q (A q + 1), put U q false, put V q 0, put F m q, 0⟩) := by unfold Hid dropOut; rw [if_pos hf, if_pos h9, Int.toNat_natCast]
        have HF : Hid (intList (put F m (q : Int)) (m + 1) = intList F m ++ [.int .i64 (q : Int)]) := intList_put F m q
        go_wp2_with (first | (at_builtin; refine wpList_append_spec _ (by rfl) (.tmp 45) (.tmp 48) 24 (by rfl) w1.heap.size 3 j0 (.int .i64 0) 1 8 Try.underlying24 ji jz0 jz1 jz2 rfl (by decide) bo' m d2 (intList F m) (by rw [intList_length]; omega) (by rfl) (k3.alloc _) ⟨W.heap.size, 0, none⟩ 1 1 [.int .i64 (q : Int)] (by rfl) (by rfl) (World.news_of_block (heap_alloc_new W _)) (by intro u hu; simp at hu; subst hu; rfl) (by decide) (by unfold maxLen; omega) (by omega) (by simp; omega) ?_; intro g2 cap w3 row hown hgrow hrow; have hne : ∀ b, b < w1.heap.size → some b ≠ row := (fun b hb e => by have hh := hrow b e.symm; have := (hh.1.lt b hh.2).1; omega); have hA6 := grown_blk hgrow (blk_alloc hA5 _) (hne _ (by omega)); have hR6 := grown_blk hgrow (blk_alloc hR5 _) (hne _ (by omega)); have x0 := blk_cell hA6 0 _ rfl; have x1 := blk_cell hA6 1 _ rfl; have x2 := blk_free hA6 1; have x4 := blk_cell hR6 0 _ rfl; have x5 := blk_cell hR6 1 _ rfl; have x6 := blk_free hR6 0; have x7 := blk_free hR6 1))
        have k5 := (k4.alloc (.cells #[.int .i64 (q : Int)] 3)).kept hgrow (by
          cases hr : row with
          | none => exact Classical.em _
          | some b => exact .inr (fun e => own_apart (k4.alloc (.cells #[.int .i64 (q : Int)] 3)) (hrow b hr).1 (by decide) b e (hrow b hr).2))
        have hbF := (push hbw5 (.cells #[.int .i64 (q : Int)] 3)).grown hgrow (by have := hbw5.size; simp; omega) (fun b hb => by have hh := hrow b hb; have := (hh.1.lt b hh.2).1; omega)
        have rF := blk_set (blk_set (blk_set_other hR6 1 (.slice (some ⟨g2, 0, none⟩) (m + 1) cap) (b' := w.heap.size) (by omega)) 0 (.slice (some ⟨g, 0, none⟩) n d1)) 1 (.slice (some ⟨g2, 0, none⟩) (m + 1) cap)
        have z0 := blk_cell rF 0 _ rfl
        have z1 := blk_cell rF 1 _ rfl
        refine bodyPost_ret (v := .tuple #[.agg #[.slice (some ⟨g, 0, none⟩) n d1, .slice (some ⟨g2, 0, none⟩) (m + 1) cap], .int .i64 0]) (by simp [results, Try.results120, go_sem, z0, z1]) rfl ⟨some ⟨g, 0, none⟩, some ⟨g2, 0, none⟩, d1, cap, ⟨n, m + 1, put A q (A q + 1), put U q false, put V q 0, put F m q, 0⟩, rfl, ⟨.inr ⟨by show 0 < n; omega, ?_⟩, .inr ⟨by show 0 < m + 1; omega, ?_⟩⟩, ⟨fun _ => by rw [HO.out], fun h => absurd HG.out h⟩, ?_⟩
        · exact own_base (own_set (own_set (own_set k5 (by show w.heap.size < _; omega) _) (by show w.heap.size + 1 + 1 < _; omega) _) (by show w.heap.size + 1 + 1 < _; omega) _) (by omega)
        · show World.ownsRow _ _ _ _ _ (m + 1) (intList (put F m (q : Int)) (m + 1))
          rw [HF.out]
          exact own_base (own_set (own_set (own_set hown (by show w.heap.size < _; omega) _) (by show w.heap.size + 1 + 1 < _; omega) _) (by show w.heap.size + 1 + 1 < _; omega) _) (by omega)
        · exact ((hbF.setCell (by show w.heap.size ≤ w.heap.size; omega) _).setCell (by show w.heap.size ≤ w.heap.size + 1 + 1; omega) _).setCell (by show w.heap.size ≤ w.heap.size + 1 + 1; omega) _
      · have HO : Hid (dropOut n m A U V F q (A q) = ⟨n, m, put A q (A q + 1), put U q false, put V q 0, F, 0⟩) := by unfold Hid dropOut; rw [if_pos hf, if_neg h9, Int.toNat_natCast]
        go_wp2
        have rF := blk_set (blk_set hR5 0 (.slice (some ⟨g, 0, none⟩) n d1)) 1 (.slice bo' m d2)
        have z0 := blk_cell rF 0 _ rfl
        have z1 := blk_cell rF 1 _ rfl
        refine bodyPost_ret (v := .tuple #[.agg #[.slice (some ⟨g, 0, none⟩) n d1, .slice bo' m d2], .int .i64 0]) (by simp [results, Try.results120, go_sem, z0, z1]) rfl ⟨some ⟨g, 0, none⟩, bo', d1, d2, ⟨n, m, put A q (A q + 1), put U q false, put V q 0, F, 0⟩, rfl, ⟨.inr ⟨by show 0 < n; omega, ?_⟩, ?_⟩, ⟨fun _ => by rw [HO.out], fun h => absurd HG.out h⟩, ?_⟩
        · exact own_base (own_set (own_set k4 (by show w.heap.size + 1 + 1 < _; omega) _) (by show w.heap.size + 1 + 1 < _; omega) _) (by omega)
        · exact SpecRow.base (SpecRow.set (SpecRow.set k3 (by show w.heap.size + 1 + 1 < _; omega) _) (by show w.heap.size + 1 + 1 < _; omega) _) (by omega)
        · exact (hbw5.setCell (by show w.heap.size ≤ w.heap.size + 1 + 1; omega) _).setCell (by show w.heap.size ≤ w.heap.size + 1 + 1; omega) _
    · have HO : Hid (dropOut n m A U V F x a = ⟨n, m, A, U, V, F, faultOf n A U x a⟩) := if_neg hf
      have ef : (faultOf n A U x a != 0) = true := by simpa using hf
      go_wp2
      have rF := blk_set (blk_set (blk_set_other (blk_set_other hR2 0 (.slice ao' n d1) (b' := w.heap.size) (by omega)) 1 (.slice bo' m d2) (b' := w.heap.size) (by omega)) 0 (.slice ao' n d1)) 1 (.slice bo' m d2)
      have z0 := blk_cell rF 0 _ rfl
      have z1 := blk_cell rF 1 _ rfl
      have k1 := SpecRow.set (SpecRow.set p1 (a := ⟨w.heap.size, 0, none⟩) (by show w.heap.size < _; omega) (.slice ao' n d1)) (a := ⟨w.heap.size, 1, none⟩) (by show w.heap.size < _; omega) (.slice bo' m d2)
      have k2 := SpecRow.set (SpecRow.set p2 (a := ⟨w.heap.size, 0, none⟩) (by show w.heap.size < _; omega) (.slice ao' n d1)) (a := ⟨w.heap.size, 1, none⟩) (by show w.heap.size < _; omega) (.slice bo' m d2)
      refine bodyPost_ret (v := .tuple #[.agg #[.slice ao' n d1, .slice bo' m d2], .int .i64 (faultOf n A U x a)]) (by simp [results, Try.results120, go_sem, z0, z1]) rfl ⟨ao', bo', d1, d2, ⟨n, m, A, U, V, F, faultOf n A U x a⟩, rfl, ⟨?_, ?_⟩, ⟨fun _ => by rw [HO.out], fun h => absurd HG.out h⟩, ?_⟩
      · exact SpecRow.base (SpecRow.set (SpecRow.set k1 (by show w.heap.size + 1 + 1 < _; omega) _) (by show w.heap.size + 1 + 1 < _; omega) _) (by omega)
      · exact SpecRow.base (SpecRow.set (SpecRow.set k2 (by show w.heap.size + 1 + 1 < _; omega) _) (by show w.heap.size + 1 + 1 < _; omega) _) (by omega)
      · exact (((hbw2.setCell (by show w.heap.size ≤ w.heap.size; omega) _).setCell (by show w.heap.size ≤ w.heap.size; omega) _).setCell (by show w.heap.size ≤ w.heap.size + 1 + 1; omega) _).setCell (by show w.heap.size ≤ w.heap.size + 1 + 1; omega) _
  · obtain rfl : c = 1 := hng hgood
    have HG : Hid (¬ Good n m A U V F) := hgood
    clear hg hng hgood
    have y5 := blk_cell hR1 0 _ rfl
    have y6 := blk_cell hR1 1 _ rfl
    have y7 := blk_free hR1 0
    have y8 := blk_free hR1 1
    go_wp2
    have rF := blk_set (blk_set hR1 0 (.slice none 0 0)) 1 (.slice none 0 0)
    have z0 := blk_cell rF 0 _ rfl
    have z1 := blk_cell rF 1 _ rfl
    exact bodyPost_ret (v := .tuple #[.agg #[.slice none 0 0, .slice none 0 0], .int .i64 1]) (by simp [results, Try.results120, go_sem, z0, z1]) rfl ⟨none, none, 0, 0, badOut, rfl, ⟨.inl ⟨rfl, _, rfl⟩, .inl ⟨rfl, _, rfl⟩⟩, ⟨fun h => absurd h HG.out, fun _ => rfl⟩, (hbw1.setCell (by show w.heap.size ≤ w.heap.size + 1 + 1; omega) _).setCell (by show w.heap.size ≤ w.heap.size + 1 + 1; omega) _⟩

end Go.Proofs.Ytclcjnbjpelcjaa
