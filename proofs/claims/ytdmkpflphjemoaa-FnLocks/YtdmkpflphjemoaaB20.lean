/-
  OWN TEXT: InsA, RiseI.
-/
import Derived.BigQuiet
import Derived.Test.YtdmkpflphjemoaaB19
import Derived.Test.YtdmkpflphjemoaaB15
namespace Go.Proofs.Ytdmkpflphjemoaa
open Go.RowKit Go.Lib

/-- What Insert makes of a list of cells, two an element. -/
def insC (xs : List Value) (i : Nat) (x : Int) (s : Bool) : List Value := xs.take (i * 2) ++ [.int .i64 x, .bool s] ++ xs.drop (i * 2)

theorem insC_shift {ys xs : List Value} {n i : Nat} {x : Int} {s : Bool} (hy : ys.length = (n + 1) * 2) (hx : xs.length = n * 2) (ht : ys.take (n * 2) = xs) (hi : i < n) :
    setL (i * 2) [.int .i64 x, .bool s] (setL ((i + 1) * 2) (xs.drop (i * 2)) ys) = insC xs i x s := by
  have hd : (xs.drop (i * 2)).length = (n - i) * 2 := by rw [List.length_drop, hx]; omega
  rw [setL_eq _ ((i + 1) * 2) ys (by rw [hd, hy]; omega), setL_eq _ _ _ (by simp only [List.length_append, List.length_take, List.length_drop, hy, hx, List.length_cons, List.length_nil]; omega)]
  unfold insC
  have e1 : ys.drop ((i + 1) * 2 + (xs.drop (i * 2)).length) = [] := List.drop_eq_nil_of_le (by rw [hd, hy]; omega)
  rw [e1, List.append_nil]
  have e2 : (ys.take ((i + 1) * 2) ++ xs.drop (i * 2)).take (i * 2) = xs.take (i * 2) := by
    rw [List.take_append_of_le_length (by rw [List.length_take, hy]; omega), List.take_take, ← ht, List.take_take]
    congr 1
    omega
  have e3 : (ys.take ((i + 1) * 2) ++ xs.drop (i * 2)).drop (i * 2 + [Value.int .i64 x, Value.bool s].length) = xs.drop (i * 2) := by
    rw [show i * 2 + [Value.int .i64 x, Value.bool s].length = (ys.take ((i + 1) * 2)).length by rw [List.length_take, hy]; simp only [List.length_cons, List.length_nil]; omega]
    exact List.drop_left
  rw [e2, e3]

theorem insC_grow {zs xs : List Value} {n i : Nat} {x : Int} {s : Bool} (hz : zs.length = (n + 1 - i) * 2) (hx : xs.length = n * 2) (hi : i < n) :
    setL ((i + 1) * 2) (xs.drop (i * 2)) (setL (i * 2) [.int .i64 x, .bool s] (xs.take (i * 2) ++ zs)) = insC xs i x s := by
  have ht : (xs.take (i * 2)).length = i * 2 := by rw [List.length_take, hx]; omega
  have hd : (xs.drop (i * 2)).length = (n - i) * 2 := by rw [List.length_drop, hx]; omega
  rw [setL_eq _ (i * 2) _ (by simp only [List.length_append, ht, hz, List.length_cons, List.length_nil]; omega)]
  have e1 : (xs.take (i * 2) ++ zs).take (i * 2) = xs.take (i * 2) := by
    have := List.take_left (l₁ := xs.take (i * 2)) (l₂ := zs)
    rwa [ht] at this
  rw [e1]
  have hl : (xs.take (i * 2) ++ [Value.int .i64 x, Value.bool s]).length = (i + 1) * 2 := by rw [List.length_append, ht]; simp only [List.length_cons, List.length_nil]; omega
  rw [setL_eq _ _ _ (by simp only [List.length_append, List.length_drop, ht, hz, hd, List.length_cons, List.length_nil]; omega)]
  have e2 : ((xs.take (i * 2) ++ [Value.int .i64 x, Value.bool s]) ++ (xs.take (i * 2) ++ zs).drop (i * 2 + [Value.int .i64 x, Value.bool s].length)).take ((i + 1) * 2) = xs.take (i * 2) ++ [.int .i64 x, .bool s] := by
    rw [← hl]
    exact List.take_left
  rw [e2]
  have e3 : ((xs.take (i * 2) ++ [Value.int .i64 x, Value.bool s]) ++ (xs.take (i * 2) ++ zs).drop (i * 2 + [Value.int .i64 x, Value.bool s].length)).drop ((i + 1) * 2 + (xs.drop (i * 2)).length) = [] := by
    apply List.drop_eq_nil_of_le
    simp only [List.length_append, List.length_drop, ht, hz, hd, List.length_cons, List.length_nil]
    omega
  rw [e3, List.append_nil]
  rfl

theorem insC_end {xs : List Value} {n : Nat} {x : Int} {s : Bool} (hx : xs.length = n * 2) : insC xs n x s = xs ++ [.int .i64 x, .bool s] := by
  unfold insC
  rw [List.take_of_length_le (by omega), List.drop_eq_nil_of_le (by omega), List.append_nil]

/-- slices.Insert at a place of an own row. -/
theorem insertA_any (ao : Option Addr) (n c i base vb : Nat) (x : Int) (s : Bool) (xs : List Value) (w : World) (hi : i ≤ n) (hn : n ≤ 1048576) (ho : w.ownsRow base 57 2 (.slice ao n c) n xs) (h1c : ∀ v ∈ xs, v.oneCell' = true)
    (hv : w.heap[vb]? = some (.cells #[.int .i64 x, .bool s] 57 (0, 0))) (hvb : (Value.slice ao n c).ownBlock ≠ some vb) (hb : base ≤ w.heap.size) :
    Calls Try.prog 63 #[.slice ao n c, .int .i64 i, .slice (some ⟨vb, 0, none⟩) 1 1] w fun e w' => ∃ v, e = .returned v ∧ w'.ownsRow base 57 2 v (n + 1) (insC xs i x s) ∧ w.grownBy w' (Value.slice ao n c).ownBlock ∧ (∀ g, v.ownBlock = some g → (Value.slice ao n c).ownBlock = some g ∨ w.heap.size ≤ g) := by
  by_cases hin : i = n
  · subst hin
    refine (insertA_end ao i c base vb x s xs w hn ho hv hb).mono fun e w' h => ?_
    rw [insC_end ho.1]
    exact h
  · have hi : i < n := by omega
    obtain ⟨g, rfl, hg1, hg2⟩ := own_addr ho (by omega)
    have hne : vb ≠ g := fun h => hvb (by rw [h]; rfl)
    have hlen : xs.length = n * 2 := ho.1
    have hcs : ∀ j v, xs[j]? = some v → w.cell? ⟨g, j, none⟩ = some v := fun j v hj => by
      have hjl : j < n * 2 := by rw [← hlen]; exact (List.getElem?_eq_some_iff.1 hj).1
      rw [ho.cellAt j hjl]; exact hj
    obtain ⟨_, _, e', hnc, hcm, _⟩ := own_form ho
    simp only [Value.slice.injEq, true_and] at e'
    obtain ⟨_, rfl⟩ := e'
    by_cases hroom : n + 1 ≤ c
    · obtain ⟨ys, hoy, hyl, hyt⟩ := own_wider ho (Nat.le_succ n) hroom
      obtain ⟨cur, hcur, hcl⟩ : ∃ cur : Array Value, w.heap[g]? = some (.cells cur 57 (0, 0)) ∧ cur.size = c * 2 := by
        rcases ho.2 with ⟨h', _⟩ | ⟨g', cap', cur, h', _, hg, _, _, hcs, _⟩
        · simp at h'
        · simp only [Value.slice.injEq, Option.some.injEq, Addr.mk.injEq, and_true, true_and] at h'
          obtain ⟨rfl, rfl⟩ := h'
          exact ⟨cur, hg, hcs⟩
      refine (insertA_shift g n c i vb x s xs w hi hroom hn (by unfold maxLen at hcm; omega) hne hlen hcs (fun j hj => by rw [hoy.cellAt j hj, List.getElem?_eq_getElem (by omega)]; rfl) (fun j _ => blk_free hcur j) hv h1c 57 cur.size (by simp [World.shape?, hcur]) (by omega)).mono ?_
      rintro e w' ⟨rfl, rfl⟩
      have hd : w.drew.ownsRow base 57 2 (.slice (some ⟨g, 0, none⟩) (n + 1) c) (n + 1) ys := hoy
      obtain ⟨o1, g1⟩ := own_setCells (xs.drop (i * 2)) ((i + 1) * 2) w.drew ys hd
      obtain ⟨o2, g2⟩ := own_setCells [.int .i64 x, .bool s] (i * 2) _ _ o1
      rw [insC_shift hyl hlen hyt hi] at o2
      exact ⟨_, rfl, o2, ⟨g2.os.trans g1.os, g2.tape.trans g1.tape, g2.output.trans g1.output, Nat.le_trans g1.size g2.size, fun k hk hne => (g2.block k (Nat.lt_of_lt_of_le hk g1.size) hne).trans (g1.block k hk hne)⟩, fun _ h => .inl h⟩
    · refine (insertA_grow g n c i vb x s xs w hi hnc (by omega) hn hlen hcs hv h1c).mono ?_
      rintro e w' ⟨rfl, rfl⟩
      obtain ⟨G, hG⟩ : ∃ G, G = grownCap w (n + 1) c 57 := ⟨_, rfl⟩
      have hGn : n + 1 ≤ G := by rw [hG]; exact grownCap_ge w _ _ _
      have hGm : G ≤ maxLen := by rw [hG]; exact grownCap_le_maxLen w (n + 1) c 57 (by unfold maxLen; omega)
      rw [← hG]
      have hzl : ∀ k, (Builtin.zeroCells (Value.agg #[.int .i64 0, .bool false]).cells k).size = k * 2 := fun k => by simp [Builtin.zeroCells, Value.cells]; try omega
      have hA : (w.alloc (.cells ((xs.take (i * 2)).toArray ++ Builtin.zeroCells (Value.agg #[.int .i64 0, .bool false]).cells (n + 1 - i) ++ Builtin.zeroCells (Value.agg #[.int .i64 0, .bool false]).cells (G - (n + 1))) 57)).drew.ownsRow base 57 2 (.slice (some ⟨w.heap.size, 0, none⟩) (n + 1) G) (n + 1) (xs.take (i * 2) ++ (Builtin.zeroCells (Value.agg #[.int .i64 0, .bool false]).cells (n + 1 - i)).toList) := by
        have ht : (xs.take (i * 2)).length = i * 2 := by rw [List.length_take, hlen]; omega
        have hl : (xs.take (i * 2) ++ (Builtin.zeroCells (Value.agg #[.int .i64 0, .bool false]).cells (n + 1 - i)).toList).length = (n + 1) * 2 := by
          rw [List.length_append, ht, Array.length_toList, hzl]; omega
        refine ⟨hl, .inr ⟨w.heap.size, G, _, rfl, hb, heap_alloc_new w _, hGn, hGm, ?_, ?_⟩⟩
        · rw [Array.size_append, Array.size_append, hzl, hzl, List.size_toArray, ht]; omega
        · rw [Array.toList_append, Array.toList_append, List.toList_toArray, ← hl]
          exact List.take_left
      have hbl := push (Below.refl w.heap.size w) (.cells ((xs.take (i * 2)).toArray ++ Builtin.zeroCells (Value.agg #[.int .i64 0, .bool false]).cells (n + 1 - i) ++ Builtin.zeroCells (Value.agg #[.int .i64 0, .bool false]).cells (G - (n + 1))) 57)
      generalize w.alloc (.cells ((xs.take (i * 2)).toArray ++ Builtin.zeroCells (Value.agg #[.int .i64 0, .bool false]).cells (n + 1 - i) ++ Builtin.zeroCells (Value.agg #[.int .i64 0, .bool false]).cells (G - (n + 1))) 57) = WA at hA hbl ⊢
      obtain ⟨o1, g1⟩ := own_setCells [.int .i64 x, .bool s] (i * 2) _ _ hA
      generalize WA.drew.setCells w.heap.size (i * 2) [.int .i64 x, .bool s] = WB at o1 g1 ⊢
      obtain ⟨o2, g2⟩ := own_setCells (xs.drop (i * 2)) ((i + 1) * 2) WB.drew _ (show WB.drew.ownsRow _ _ _ _ _ _ from o1)
      rw [insC_grow (by rw [Array.length_toList, hzl]) hlen hi] at o2
      have s1 : WA.heap.size ≤ WB.heap.size := g1.size
      have s2 : WB.heap.size ≤ (WB.drew.setCells w.heap.size ((i + 1) * 2) (xs.drop (i * 2))).heap.size := g2.size
      have s0 := hbl.size
      refine ⟨_, rfl, o2, ⟨g2.os.trans (g1.os.trans hbl.os), g2.tape.trans (g1.tape.trans hbl.tape), g2.output.trans (g1.output.trans hbl.output), by omega, fun k hk hne => ?_⟩, fun g h => .inr (by simp only [Value.ownBlock, Option.some.injEq] at h; omega)⟩
      have hkn : some k ≠ some w.heap.size := fun h => by cases h; omega
      have b2 : _ = WB.heap[k]? := g2.block k (show k < WB.heap.size by omega) hkn
      have b1 : WB.heap[k]? = WA.heap[k]? := g1.block k (show k < WA.heap.size by omega) hkn
      exact b2.trans (b1.trans (hbl.block k hk))

end Go.Proofs.Ytdmkpflphjemoaa

namespace Go.Proofs.Ytdmkpflphjemoaa
open Go.RowKit

theorem kept_of_grown {w w' : World} {v : Value} (hg : w.grownBy w' v.ownBlock) : Kept w w' (fun b => v.ownBlock = some b) :=
  ⟨hg.os, hg.tape, hg.output, hg.size, fun k hk hs => hg.block k hk (fun e => hs e.symm)⟩

set_option maxHeartbeats 1600000 in
set_option maxRecDepth 100000 in
theorem putRising_any (ao : Option Addr) (n c base : Nat) (h : List (Int × Bool)) (x : Int) (s : Bool) (w : World) (e1 : h.length = n) (hn : n ≤ 1048576) (ho : AsksIs w base (.slice ao n c) h) (hb : base ≤ w.heap.size) :
    Calls Try.prog 49 #[.slice ao n c, .agg #[.int .i64 x, .bool s]] w fun e w' => ∃ v, e = .returned v ∧ AsksIs w' base v (insP h (x, s)) ∧ Kept w w' (fun b => (Value.slice ao n c).ownBlock = some b) ∧ (∀ g, v.ownBlock = some g → (Value.slice ao n c).ownBlock = some g ∨ w.heap.size ≤ g) := by
  have E1 : Hid (h.length = n) := e1
  have HO : Hid (w.ownsRow base 57 2 (.slice ao n c) n (cellsA h)) := by
    have h1 := ho
    unfold AsksIs at h1
    rw [e1] at h1
    exact h1
  have hx : LineAt w ao (lineOf h) := by
    have h1 := HO.out
    rw [← askList_lineOf] at h1
    subst e1
    exact line_of_own h1
  have HX : Hid (LineAt w ao (lineOf h)) := hx
  clear hx ho e1
  have hb0 : Below w.heap.size w (w.alloc (.cells #[.int .i64 x, .bool s] 57)) := push (Below.refl _ _) _
  have bA := heap_alloc_new w (.cells #[.int .i64 x, .bool s] 57)
  go_enter Try.func49, Try.ntmps49
  go_wp2
  generalize w.alloc (.cells #[.int .i64 x, .bool s] 57) = X at hb0 bA ⊢
  go_loopw [5] (fun i wr => ∃ p : Nat, p ≤ n ∧ i = .int .i64 p ∧ (∀ j, j < p → (lineOf h).T j < x) ∧ Below X.heap.size X wr) (fun i _ => n - (intOf i).toNat)
  case atStart => exact ⟨0, Nat.zero_le _, rfl, fun j hj => by omega, Below.refl _ _⟩
  case round =>
    obtain ⟨p, hp, rfl, hle, hbel⟩ := hrel
    have HLE : Hid (∀ j, j < p → (lineOf h).T j < x) := hle
    clear hle
    have bP := blk_below bA hbel
    have y0 := blk_cell bP 0 _ rfl
    by_cases hlt : p < n
    · obtain ⟨b, off, rfl, h1, h2⟩ := HX.out p (show p < h.length by rw [E1.out]; omega)
      have hb1 := World.block_lt_of_cell? w _ h1
      have d1 := ((after hb0 hbel).cell (p := ⟨b, off + p * 2, none⟩) hb1).trans h1
      clear h1 h2
      have e0 : decide ((p : Int) < (n : Int)) = true := by simp; omega
      have e1 : (p : Int) < (n : Int) := by omega
      have e2 : (0 : Int) ≤ (p : Int) := by omega
      by_cases hT : (lineOf h).T p < x
      · have e3 : decide ((lineOf h).T p < x) = true := by simpa using hT
        go_wp2
        go_quiet (fail)
        go_wp2
        go_roundw
        case rel => exact ⟨p + 1, by omega, by go_num, fun j hj => by rcases Nat.lt_succ_iff_lt_or_eq.1 hj with h | h; exact HLE.out j h; rw [h]; exact hT, below_drewN hbel _⟩
        case measure => simp [intOf]; omega
      · have e3 : decide ((lineOf h).T p < x) = false := by simpa using hT
        go_wp2
        go_quiet (fail)
        have HSL : Hid (IsSlot (lineOf h) x p) := ⟨by show p ≤ h.length; rw [E1.out]; exact hp, HLE.out, fun _ => by omega⟩
        have hY : Below w.heap.size w (wr.drewN nq) := below_drewN (after hb0 hbel) _
        have bY : (wr.drewN nq).heap[w.heap.size]? = some (.cells #[.int .i64 x, .bool s] 57 (0, 0)) := blk_below bP (below_drewN (Below.refl _ _) _)
        clear y0 bP hbel
        generalize wr.drewN nq = Y at hY bY ⊢
        have z0 := blk_cell bY 0 _ rfl
        have z1 := blk_cell bY 1 _ rfl
        go_wp2_with fail
        refine (insertA_any _ n c p base Y.heap.size x s (cellsA h) _ hp hn (own_below (push hY _) HO.out) (cellsA_one h) (heap_alloc_new Y _) (fun e => by have := (World.ownsRow.lt HO.out _ e).2; have := hY.size; omega) (by have := hY.size; simp; omega)).mono ?_
        rintro e w3 ⟨v3, rfl, ho3, hg3, hat3⟩
        (try rw [Exit.noGoto_ret])
        go_wp2
        go_ret
        refine ⟨_, rfl, ?_, ?_, fun g hg => (hat3 g hg).imp_right (fun h => by have := hY.size; have : Y.heap.size ≤ g := Nat.le_trans (by simp) h; omega)⟩
        · obtain rfl := slot_one HSL.out (slotP_is h x)
          unfold AsksIs
          rw [insP_length, E1.out]
          unfold insP
          rw [cellsA_append]
          unfold insC at ho3
          rw [cellsA_take, cellsA_drop, List.append_assoc] at ho3
          exact ho3
        · exact (Kept.of_below (push hY _)).trans (kept_of_grown hg3)
    · have e0 : decide ((p : Int) < (n : Int)) = false := by simp; omega
      go_wp2
      go_quiet (fail)
      have HSL : Hid (IsSlot (lineOf h) x p) := ⟨by show p ≤ h.length; rw [E1.out]; exact hp, HLE.out, fun h1 => by have h2 : p < h.length := h1; rw [E1.out] at h2; omega⟩
      have hY : Below w.heap.size w (wr.drewN nq) := below_drewN (after hb0 hbel) _
      have bY : (wr.drewN nq).heap[w.heap.size]? = some (.cells #[.int .i64 x, .bool s] 57 (0, 0)) := blk_below bP (below_drewN (Below.refl _ _) _)
      clear y0 bP hbel
      generalize wr.drewN nq = Y at hY bY ⊢
      have z0 := blk_cell bY 0 _ rfl
      have z1 := blk_cell bY 1 _ rfl
      go_wp2_with fail
      refine (insertA_any _ n c p base Y.heap.size x s (cellsA h) _ hp hn (own_below (push hY _) HO.out) (cellsA_one h) (heap_alloc_new Y _) (fun e => by have := (World.ownsRow.lt HO.out _ e).2; have := hY.size; omega) (by have := hY.size; simp; omega)).mono ?_
      rintro e w3 ⟨v3, rfl, ho3, hg3, hat3⟩
      (try rw [Exit.noGoto_ret])
      go_wp2
      go_ret
      refine ⟨_, rfl, ?_, ?_, fun g hg => (hat3 g hg).imp_right (fun h => by have := hY.size; have : Y.heap.size ≤ g := Nat.le_trans (by simp) h; omega)⟩
      · obtain rfl := slot_one HSL.out (slotP_is h x)
        unfold AsksIs
        rw [insP_length, E1.out]
        unfold insP
        rw [cellsA_append]
        unfold insC at ho3
        rw [cellsA_take, cellsA_drop, List.append_assoc] at ho3
        exact ho3
      · exact (Kept.of_below (push hY _)).trans (kept_of_grown hg3)

end Go.Proofs.Ytdmkpflphjemoaa
