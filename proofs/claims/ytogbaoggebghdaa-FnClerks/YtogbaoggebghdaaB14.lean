/-
  OWN TEXT: InsQG, InsQ.
-/
import Derived.Lib.AppendZerosOnto
import Derived.Laws.NewBlocks
import Derived.Test.YtogbaoggebghdaaB11
import Derived.Test.YtogbaoggebghdaaB12
import Derived.Test.YtogbaoggebghdaaB13
namespace Go.Proofs.Ytogbaoggebghdaa
open Go.RowKit Go.Lib

set_option maxHeartbeats 4000000 in
set_option maxRecDepth 100000 in
theorem insertQ_grow (Z : Value) (hZ : (Try.prog.info? 68).map (fun i => (i.zero, i.size, i.bytes)) = some (some Z, 7, 80)) (hZc : ∀ k, (Builtin.zeroCells Z.cells k).size = k * 7) (b n c i vb : Nat) (u0 u1 u2 u3 u4 u5 u6 : Value) (hall : ∀ v ∈ [u0, u1, u2, u3, u4, u5, u6], v.oneCell' = true) (cs : List Value) (w : World) (hi : i < n) (hnc : n ≤ c) (hroom : c < n + 1) (hn : n ≤ 1048576) (hcl : cs.length = n * 7)
    (hcs : ∀ j v, cs[j]? = some v → w.cell? ⟨b, j, none⟩ = some v)
    (hv : w.heap[vb]? = some (.cells #[u0, u1, u2, u3, u4, u5, u6] 68 (0, 0))) (h1c : ∀ v ∈ cs, v.oneCell' = true) :
    Calls Try.prog 80 #[.slice (some ⟨b, 0, none⟩) n c, .int .i64 i, .slice (some ⟨vb, 0, none⟩) 1 1] w fun e w' =>
      e = .returned (.slice (some ⟨w.heap.size, 0, none⟩) (n + 1) (grownCap w (n + 1) c 68)) ∧
      w' = (((w.alloc (.cells ((cs.take (i * 7)).toArray ++ Builtin.zeroCells Z.cells (n + 1 - i) ++ Builtin.zeroCells Z.cells (grownCap w (n + 1) c 68 - (n + 1))) 68)).drew.setCells w.heap.size (i * 7) [u0, u1, u2, u3, u4, u5, u6]).drew).setCells w.heap.size ((i + 1) * 7) (cs.drop (i * 7)) := by
  obtain ⟨i0, hi0, hz0, hzs, hzb⟩ := info_parts hZ
  have hbig : (n + 1) * 80 ≤ 140737488355328 := by omega
  have hz2 : ¬ ((i : Int) = (n : Int)) := by omega
  have hz3 : (c : Int) < (n : Int) + 1 := by omega
  have hsz : (Try.prog.info? 68).map (·.size) = some 7 := by rw [hi0]; simp [hzs]
  have hbw : b < w.heap.size := block_lt_of_cell (hcs 0 _ (List.getElem?_eq_getElem (by omega)))
  have hvw : vb < w.heap.size := blk_lt hv
  have hkk : (n : Int) + 1 - (i : Int) = ((n + 1 - i : Nat) : Int) := by omega
  have hik : i + (n + 1 - i) = n + 1 := by omega
  have hold : (Builtin.firstCells i0.size i (.slice (some ⟨b, 0, none⟩) i c)).run Try.prog w.drew = .ok (cs.take (i * 7)).toArray w.drew := by
    rw [hzs]
    exact run_firstCells_some w.drew 7 i ⟨b, 0, none⟩ i c (cs.take (i * 7)) (by rw [List.length_take]; omega) (fun j v hj => by
      rw [Addr.add_lit]
      rw [List.getElem?_take] at hj
      split at hj
      · rw [Nat.zero_add]; exact hcs j v hj
      · cases hj)
  have hrz : ∀ ty, (Builtin.append_ #[23, 3] ty #[.slice (some ⟨b, 0, none⟩) i c, .int .i64 ((n : Int) + 1 - (i : Int))]).run Try.prog w =
      .ok (.slice (some ⟨w.heap.size, 0, none⟩) (n + 1) (grownCap w (n + 1) c 68)) (w.drew.alloc (.cells ((cs.take (i * 7)).toArray ++ Builtin.zeroCells Z.cells (n + 1 - i) ++ Builtin.zeroCells Z.cells (grownCap w (n + 1) c 68 - (n + 1))) 68)) := fun ty => by
    have h := Lib.run_append_grow_zeros w 23 3 ty 68 i0 _ .i64 .i64 Try.underlying23 Try.underlying3 hi0 hz0 (some ⟨b, 0, none⟩) i c (cs.take (i * 7)) hold (n + 1 - i) (by omega) (by omega) (by omega) (by omega) (by rw [hzb]; omega) (by rw [hzb, hik]; exact growslice_fits hroom hbig)
    rw [hik] at h
    rw [hkk]
    exact h
  obtain ⟨G, hG⟩ : ∃ G, G = grownCap w (n + 1) c 68 := ⟨_, rfl⟩
  obtain ⟨ROW, hROW⟩ : ∃ ROW : Array Value, ROW = (cs.take (i * 7)).toArray ++ Builtin.zeroCells Z.cells (n + 1 - i) ++ Builtin.zeroCells Z.cells (G - (n + 1)) := ⟨_, rfl⟩
  rw [← hG] at hrz ⊢
  rw [← hROW] at hrz ⊢
  have hRl : (n + 1) * 7 ≤ ROW.size := by
    rw [hROW]
    rw [Array.size_append, Array.size_append, hZc, hZc, List.size_toArray, List.length_take, hcl]
    omega
  obtain ⟨W1, hW1⟩ : ∃ W1, W1 = w.drew.alloc (.cells ROW 68) := ⟨_, rfl⟩
  rw [← hW1] at hrz
  have hN : ∀ j, j < (n + 1) * 7 → (W1.cell? ⟨w.heap.size, j, none⟩).isSome = true := fun j hj => by
    rw [hW1, World.cell?_alloc_at (w := w.drew) ROW _ w.heap.size j rfl, Array.getElem?_eq_getElem (by omega)]; rfl
  have hNf : ∀ j, W1.frozen? ⟨w.heap.size, j, none⟩ = false := fun j => by rw [hW1]; exact World.frozen?_alloc_at (w := w.drew) ROW _ w.heap.size j rfl
  have hOb : ∀ j v, w.cell? ⟨b, j, none⟩ = some v → W1.cell? ⟨b, j, none⟩ = some v := fun j v h => by rw [hW1, World.cell?_alloc_past (w := w.drew) _ b j hbw]; exact h
  have hOv : ∀ j v, w.cell? ⟨vb, j, none⟩ = some v → W1.cell? ⟨vb, j, none⟩ = some v := fun j v h => by rw [hW1, World.cell?_alloc_past (w := w.drew) _ vb j hvw]; exact h
  have hdl : (cs.drop (i * 7)).length = (n - i) * 7 := by rw [List.length_drop, hcl]; omega
  have m1 : Nat.min 1 (n + 1 - i) = 1 := Nat.min_eq_left (by omega)
  have m2 : Nat.min (n - i) (n + 1 - (i + 1)) = n - i := by simp only [Nat.min_def]; split <;> omega
  have hcpA : ∀ (W : World), (∀ x, W.cell? x = W1.cell? x) → (∀ x, W.frozen? x = W1.frozen? x) → ∀ ty dc, (Builtin.copy_ #[23, 23] ty #[.slice (some ⟨w.heap.size, i * 7, none⟩) (n + 1 - i) dc, .slice (some ⟨vb, 0, none⟩) 1 1]).run Try.prog W = .ok (goInt 1) (W.setCells w.heap.size (i * 7) [u0, u1, u2, u3, u4, u5, u6]) := fun W hWc hWf ty dc => by
    have h := run_copy_sz (P := Try.prog) W 23 23 ty 68 7 w.heap.size (i * 7) (n + 1 - i) dc ⟨vb, 0, none⟩ 1 1 [u0, u1, u2, u3, u4, u5, u6] Try.underlying23 hsz (by rw [m1]; rfl)
      (fun j v hj => by
        rw [Addr.add_lit, hWc]
        have hq := World.news_of_block hv j v hj
        rw [Addr.add_lit] at hq
        exact hOv _ v hq)
      (fun j hj => by rw [hWc]; exact hN _ (by have : j < 7 := hj; omega)) (fun j hj => by rw [hWf]; exact hNf _) hall
    rw [m1] at h
    exact h
  have hGn : n + 1 ≤ G := by rw [hG]; exact grownCap_ge w _ _ _
  have hG63 : G ≤ 9223372036854775807 := by
    have := grownCap_le_maxLen w (n + 1) c 68 (by unfold maxLen; omega)
    rw [← hG] at this
    unfold maxLen at this
    omega
  have hGi : ¬ (G = i) := by omega
  have hGim : ¬ (G = i + 1) := by omega
  have hci : ¬ (c = i) := by omega
  have hbN : b ≠ w.heap.size := by omega
  have hcpB : ∀ (W : World), (∀ y, W.cell? y = (W1.setCells w.heap.size (i * 7) [u0, u1, u2, u3, u4, u5, u6]).cell? y) → (∀ y, W.frozen? y = (W1.setCells w.heap.size (i * 7) [u0, u1, u2, u3, u4, u5, u6]).frozen? y) → ∀ ty dc sc, (Builtin.copy_ #[23, 23] ty #[.slice (some ⟨w.heap.size, (i + 1) * 7, none⟩) (n + 1 - (i + 1)) dc, .slice (some ⟨b, i * 7, none⟩) (n - i) sc]).run Try.prog W = .ok (goInt ((n - i : Nat) : Int)) (W.setCells w.heap.size ((i + 1) * 7) (cs.drop (i * 7))) := fun W hWc hWf ty dc sc => by
    have h := run_copy_sz (P := Try.prog) W 23 23 ty 68 7 w.heap.size ((i + 1) * 7) (n + 1 - (i + 1)) dc ⟨b, i * 7, none⟩ (n - i) sc (cs.drop (i * 7)) Try.underlying23 hsz (by rw [hdl, m2])
      (fun j v hj => by
        rw [Addr.add_lit, hWc, World.cell?_setCells_out _ _ _ _ _ (fun h _ => absurd h hbN)]
        exact hOb _ v (hcs (i * 7 + j) v (by rwa [List.getElem?_drop] at hj)))
      (fun j hj => by rw [hWc]; exact isSome_setCells _ _ _ _ (fun t ht => hN _ (by have : t < 7 := ht; omega)) _ (hN _ (by omega)))
      (fun j hj => by rw [hWf, World.frozen?_setCells]; exact hNf _) (fun v hv => h1c v (List.mem_of_mem_drop hv))
    rw [m2] at h
    exact h
  subst hW1
  have hE0 : (w.alloc (.cells ROW 68)).drew = w.drew.alloc (.cells ROW 68) := rfl
  have hDc : ∀ (W : World) y, W.drew.cell? y = W.cell? y := fun _ _ => rfl
  have hDf : ∀ (W : World) y, W.drew.frozen? y = W.frozen? y := fun _ _ => rfl
  have hE1 : ∀ y, ((w.alloc (.cells ROW 68)).drew).cell? y = (w.drew.alloc (.cells ROW 68)).cell? y := fun y => rfl
  have hE2 : ∀ y, ((w.alloc (.cells ROW 68)).drew).frozen? y = (w.drew.alloc (.cells ROW 68)).frozen? y := fun y => rfl
  have hF1 : ∀ y, (((w.alloc (.cells ROW 68)).drew.setCells w.heap.size (i * 7) [u0, u1, u2, u3, u4, u5, u6]).drew).cell? y = ((w.drew.alloc (.cells ROW 68)).setCells w.heap.size (i * 7) [u0, u1, u2, u3, u4, u5, u6]).cell? y := fun y => by rw [hDc, hE0]
  have hF2 : ∀ y, (((w.alloc (.cells ROW 68)).drew.setCells w.heap.size (i * 7) [u0, u1, u2, u3, u4, u5, u6]).drew).frozen? y = ((w.drew.alloc (.cells ROW 68)).setCells w.heap.size (i * 7) [u0, u1, u2, u3, u4, u5, u6]).frozen? y := fun y => by rw [hDf, hE0]
  have hw1 : IntKind.i64.wrap ((i : Int) + 1) = (i : Int) + 1 := by rw [IntKind.wrap_i64]; omega
  have hb1 : (0 : Int) ≤ (i : Int) + 1 := by omega
  have hin : i ≤ n := by omega
  have htn : ((i : Int) + 1).toNat = i + 1 := by omega
  have hb3 : (i : Int) ≤ (n : Int) := by omega
  clear hE0 hDc hDf hkk hik hold hROW hG hRl
  go_enter Try.func80, Try.ntmps80
  go_wp2_with (first
    | (at_builtin; refine Lib.wpList_append_run _ rfl _ _ _ _ rfl _ _ rfl rfl _ _ (hrz _) ?_)
    | (at_builtin; refine wpList_copy_runI _ rfl _ _ 23 23 rfl _ _ rfl rfl (hcpA _ hE1 hE2 _ _) ?_)
    | (at_builtin; refine wpList_copy_runI _ rfl _ _ 23 23 rfl _ _ rfl rfl (hcpB _ (fun _ => rfl) (fun _ => rfl) _ _ _) ?_))
  go_region_law (refine step_copy_runI rfl _ _ 23 23 rfl (.slice (some ⟨w.heap.size, (i + 1) * 7, none⟩) (n + 1 - (i + 1)) (G - (i + 1))) (.slice (some ⟨b, i * 7, none⟩) (n - i) (c - i)) (by simp [Act.eval, Act.put]) (by simp [Act.eval, Act.put]) (hcpB _ hF1 hF2 3 (G - (i + 1)) (c - i)) ?_)
  go_wp2
  (try rw [Exit.noGoto_ret])
  go_ret
  exact ⟨rfl, rfl⟩


end Go.Proofs.Ytogbaoggebghdaa

namespace Go.Proofs.Ytogbaoggebghdaa
open Go.RowKit Go.Lib

/-- What Insert makes of a list of cells, seven an element. -/
def insQ (xs : List Value) (i : Nat) (u0 u1 u2 u3 u4 u5 u6 : Value) : List Value := xs.take (i * 7) ++ [u0, u1, u2, u3, u4, u5, u6] ++ xs.drop (i * 7)

theorem insQ_shift {ys xs : List Value} {n i : Nat} {u0 u1 u2 u3 u4 u5 u6 : Value} (hy : ys.length = (n + 1) * 7) (hx : xs.length = n * 7) (ht : ys.take (n * 7) = xs) (hi : i < n) :
    setL (i * 7) [u0, u1, u2, u3, u4, u5, u6] (setL ((i + 1) * 7) (xs.drop (i * 7)) ys) = insQ xs i u0 u1 u2 u3 u4 u5 u6 := by
  have hd : (xs.drop (i * 7)).length = (n - i) * 7 := by rw [List.length_drop, hx]; omega
  rw [setL_eq _ ((i + 1) * 7) ys (by rw [hd, hy]; omega), setL_eq _ _ _ (by simp only [List.length_append, List.length_take, List.length_drop, hy, hx, List.length_cons, List.length_nil]; omega)]
  unfold insQ
  have e1 : ys.drop ((i + 1) * 7 + (xs.drop (i * 7)).length) = [] := List.drop_eq_nil_of_le (by rw [hd, hy]; omega)
  rw [e1, List.append_nil]
  have e2 : (ys.take ((i + 1) * 7) ++ xs.drop (i * 7)).take (i * 7) = xs.take (i * 7) := by
    rw [List.take_append_of_le_length (by rw [List.length_take, hy]; omega), List.take_take, ← ht, List.take_take]
    congr 1
    omega
  have e3 : (ys.take ((i + 1) * 7) ++ xs.drop (i * 7)).drop (i * 7 + [u0, u1, u2, u3, u4, u5, u6].length) = xs.drop (i * 7) := by
    rw [show i * 7 + [u0, u1, u2, u3, u4, u5, u6].length = (ys.take ((i + 1) * 7)).length by rw [List.length_take, hy]; simp only [List.length_cons, List.length_nil]; omega]
    exact List.drop_left
  rw [e2, e3]

theorem insQ_grow {zs xs : List Value} {n i : Nat} {u0 u1 u2 u3 u4 u5 u6 : Value} (hz : zs.length = (n + 1 - i) * 7) (hx : xs.length = n * 7) (hi : i < n) :
    setL ((i + 1) * 7) (xs.drop (i * 7)) (setL (i * 7) [u0, u1, u2, u3, u4, u5, u6] (xs.take (i * 7) ++ zs)) = insQ xs i u0 u1 u2 u3 u4 u5 u6 := by
  have ht : (xs.take (i * 7)).length = i * 7 := by rw [List.length_take, hx]; omega
  have hd : (xs.drop (i * 7)).length = (n - i) * 7 := by rw [List.length_drop, hx]; omega
  rw [setL_eq _ (i * 7) _ (by simp only [List.length_append, ht, hz, List.length_cons, List.length_nil]; omega)]
  have e1 : (xs.take (i * 7) ++ zs).take (i * 7) = xs.take (i * 7) := by
    have := List.take_left (l₁ := xs.take (i * 7)) (l₂ := zs)
    rwa [ht] at this
  rw [e1]
  have hl : (xs.take (i * 7) ++ [u0, u1, u2, u3, u4, u5, u6]).length = (i + 1) * 7 := by rw [List.length_append, ht]; simp only [List.length_cons, List.length_nil]; omega
  rw [setL_eq _ _ _ (by simp only [List.length_append, List.length_drop, ht, hz, hd, List.length_cons, List.length_nil]; omega)]
  have e2 : ((xs.take (i * 7) ++ [u0, u1, u2, u3, u4, u5, u6]) ++ (xs.take (i * 7) ++ zs).drop (i * 7 + [u0, u1, u2, u3, u4, u5, u6].length)).take ((i + 1) * 7) = xs.take (i * 7) ++ [u0, u1, u2, u3, u4, u5, u6] := by
    rw [← hl]
    exact List.take_left
  rw [e2]
  have e3 : ((xs.take (i * 7) ++ [u0, u1, u2, u3, u4, u5, u6]) ++ (xs.take (i * 7) ++ zs).drop (i * 7 + [u0, u1, u2, u3, u4, u5, u6].length)).drop ((i + 1) * 7 + (xs.drop (i * 7)).length) = [] := by
    apply List.drop_eq_nil_of_le
    simp only [List.length_append, List.length_drop, ht, hz, hd, List.length_cons, List.length_nil]
    omega
  rw [e3, List.append_nil]
  rfl

theorem insQ_end {xs : List Value} {n : Nat} {u0 u1 u2 u3 u4 u5 u6 : Value} (hx : xs.length = n * 7) : insQ xs n u0 u1 u2 u3 u4 u5 u6 = xs ++ [u0, u1, u2, u3, u4, u5, u6] := by
  unfold insQ
  rw [List.take_of_length_le (by omega), List.drop_eq_nil_of_le (by omega), List.append_nil]

/-- slices.Insert at a place of an own row. -/
theorem insertQ_any (ao : Option Addr) (n c i base vb : Nat) (u0 u1 u2 u3 u4 u5 u6 : Value) (hall : ∀ v ∈ [u0, u1, u2, u3, u4, u5, u6], v.oneCell' = true) (xs : List Value) (w : World) (hi : i ≤ n) (hn : n ≤ 1048576) (ho : w.ownsRow base 68 7 (.slice ao n c) n xs) (h1c : ∀ v ∈ xs, v.oneCell' = true)
    (hv : w.heap[vb]? = some (.cells #[u0, u1, u2, u3, u4, u5, u6] 68 (0, 0))) (hvb : (Value.slice ao n c).ownBlock ≠ some vb) (hb : base ≤ w.heap.size) :
    Calls Try.prog 80 #[.slice ao n c, .int .i64 i, .slice (some ⟨vb, 0, none⟩) 1 1] w fun e w' => ∃ v, e = .returned v ∧ w'.ownsRow base 68 7 v (n + 1) (insQ xs i u0 u1 u2 u3 u4 u5 u6) ∧ w.grownBy w' (Value.slice ao n c).ownBlock ∧ (∀ g, v.ownBlock = some g → (Value.slice ao n c).ownBlock = some g ∨ w.heap.size ≤ g) := by
  by_cases hin : i = n
  · subst hin
    refine (insertQ_end ao i c base vb u0 u1 u2 u3 u4 u5 u6 hall xs w hn ho hv hb).mono fun e w' h => ?_
    rw [insQ_end ho.1]
    exact h
  · have hi : i < n := by omega
    obtain ⟨g, rfl, hg1, hg2⟩ := own_addr ho (by omega)
    have hne : vb ≠ g := fun h => hvb (by rw [h]; rfl)
    have hlen : xs.length = n * 7 := ho.1
    have hcs : ∀ j v, xs[j]? = some v → w.cell? ⟨g, j, none⟩ = some v := fun j v hj => by
      have hjl : j < n * 7 := by rw [← hlen]; exact (List.getElem?_eq_some_iff.1 hj).1
      rw [ho.cellAt j hjl]; exact hj
    obtain ⟨_, _, e', hnc, hcm, _⟩ := own_form ho
    simp only [Value.slice.injEq, true_and] at e'
    obtain ⟨_, rfl⟩ := e'
    by_cases hroom : n + 1 ≤ c
    · obtain ⟨ys, hoy, hyl, hyt⟩ := own_wider ho (Nat.le_succ n) hroom
      obtain ⟨cur, hcur, hcl⟩ : ∃ cur : Array Value, w.heap[g]? = some (.cells cur 68 (0, 0)) ∧ cur.size = c * 7 := by
        rcases ho.2 with ⟨h', _⟩ | ⟨g', cap', cur, h', _, hg, _, _, hcs, _⟩
        · simp at h'
        · simp only [Value.slice.injEq, Option.some.injEq, Addr.mk.injEq, and_true, true_and] at h'
          obtain ⟨rfl, rfl⟩ := h'
          exact ⟨cur, hg, hcs⟩
      refine (insertQ_shift g n c i vb u0 u1 u2 u3 u4 u5 u6 hall xs w hi hroom hn (by unfold maxLen at hcm; omega) hne hlen hcs (fun j hj => by rw [hoy.cellAt j hj, List.getElem?_eq_getElem (by omega)]; rfl) (fun j _ => blk_free hcur j) hv h1c 68 cur.size (by simp [World.shape?, hcur]) (by omega)).mono ?_
      rintro e w' ⟨rfl, rfl⟩
      have hd : w.drew.ownsRow base 68 7 (.slice (some ⟨g, 0, none⟩) (n + 1) c) (n + 1) ys := hoy
      obtain ⟨o1, g1⟩ := own_setCells (xs.drop (i * 7)) ((i + 1) * 7) w.drew ys hd
      obtain ⟨o2, g2⟩ := own_setCells [u0, u1, u2, u3, u4, u5, u6] (i * 7) _ _ o1
      rw [insQ_shift hyl hlen hyt hi] at o2
      exact ⟨_, rfl, o2, ⟨g2.os.trans g1.os, g2.tape.trans g1.tape, g2.output.trans g1.output, Nat.le_trans g1.size g2.size, fun k hk hne => (g2.block k (Nat.lt_of_lt_of_le hk g1.size) hne).trans (g1.block k hk hne)⟩, fun _ h => .inl h⟩
    · refine (insertQ_grow (.agg #[.string ⟨#[]⟩, .int .i64 0, .bool false, .int .i64 0, .int .i64 0, .int .i64 0, .slice none 0 0]) Try.infoClerk (fun k => by simp [Builtin.zeroCells, Value.cells]; try omega) g n c i vb u0 u1 u2 u3 u4 u5 u6 hall xs w hi hnc (by omega) hn hlen hcs hv h1c).mono ?_
      rintro e w' ⟨rfl, rfl⟩
      obtain ⟨G, hG⟩ : ∃ G, G = grownCap w (n + 1) c 68 := ⟨_, rfl⟩
      have hGn : n + 1 ≤ G := by rw [hG]; exact grownCap_ge w _ _ _
      have hGm : G ≤ maxLen := by rw [hG]; exact grownCap_le_maxLen w (n + 1) c 68 (by unfold maxLen; omega)
      rw [← hG]
      have hzl : ∀ k, (Builtin.zeroCells (Value.agg #[.string ⟨#[]⟩, .int .i64 0, .bool false, .int .i64 0, .int .i64 0, .int .i64 0, .slice none 0 0]).cells k).size = k * 7 := fun k => by simp [Builtin.zeroCells, Value.cells]; try omega
      have hA : (w.alloc (.cells ((xs.take (i * 7)).toArray ++ Builtin.zeroCells (Value.agg #[.string ⟨#[]⟩, .int .i64 0, .bool false, .int .i64 0, .int .i64 0, .int .i64 0, .slice none 0 0]).cells (n + 1 - i) ++ Builtin.zeroCells (Value.agg #[.string ⟨#[]⟩, .int .i64 0, .bool false, .int .i64 0, .int .i64 0, .int .i64 0, .slice none 0 0]).cells (G - (n + 1))) 68)).drew.ownsRow base 68 7 (.slice (some ⟨w.heap.size, 0, none⟩) (n + 1) G) (n + 1) (xs.take (i * 7) ++ (Builtin.zeroCells (Value.agg #[.string ⟨#[]⟩, .int .i64 0, .bool false, .int .i64 0, .int .i64 0, .int .i64 0, .slice none 0 0]).cells (n + 1 - i)).toList) := by
        have ht : (xs.take (i * 7)).length = i * 7 := by rw [List.length_take, hlen]; omega
        have hl : (xs.take (i * 7) ++ (Builtin.zeroCells (Value.agg #[.string ⟨#[]⟩, .int .i64 0, .bool false, .int .i64 0, .int .i64 0, .int .i64 0, .slice none 0 0]).cells (n + 1 - i)).toList).length = (n + 1) * 7 := by
          rw [List.length_append, ht, Array.length_toList, hzl]; omega
        refine ⟨hl, .inr ⟨w.heap.size, G, _, rfl, hb, heap_alloc_new w _, hGn, hGm, ?_, ?_⟩⟩
        · rw [Array.size_append, Array.size_append, hzl, hzl, List.size_toArray, ht]; omega
        · rw [Array.toList_append, Array.toList_append, List.toList_toArray, ← hl]
          exact List.take_left
      have hbl := push (Below.refl w.heap.size w) (.cells ((xs.take (i * 7)).toArray ++ Builtin.zeroCells (Value.agg #[.string ⟨#[]⟩, .int .i64 0, .bool false, .int .i64 0, .int .i64 0, .int .i64 0, .slice none 0 0]).cells (n + 1 - i) ++ Builtin.zeroCells (Value.agg #[.string ⟨#[]⟩, .int .i64 0, .bool false, .int .i64 0, .int .i64 0, .int .i64 0, .slice none 0 0]).cells (G - (n + 1))) 68)
      generalize w.alloc (.cells ((xs.take (i * 7)).toArray ++ Builtin.zeroCells (Value.agg #[.string ⟨#[]⟩, .int .i64 0, .bool false, .int .i64 0, .int .i64 0, .int .i64 0, .slice none 0 0]).cells (n + 1 - i) ++ Builtin.zeroCells (Value.agg #[.string ⟨#[]⟩, .int .i64 0, .bool false, .int .i64 0, .int .i64 0, .int .i64 0, .slice none 0 0]).cells (G - (n + 1))) 68) = WA at hA hbl ⊢
      obtain ⟨o1, g1⟩ := own_setCells [u0, u1, u2, u3, u4, u5, u6] (i * 7) _ _ hA
      generalize WA.drew.setCells w.heap.size (i * 7) [u0, u1, u2, u3, u4, u5, u6] = WB at o1 g1 ⊢
      obtain ⟨o2, g2⟩ := own_setCells (xs.drop (i * 7)) ((i + 1) * 7) WB.drew _ (show WB.drew.ownsRow _ _ _ _ _ _ from o1)
      rw [insQ_grow (by rw [Array.length_toList, hzl]) hlen hi] at o2
      have s1 : WA.heap.size ≤ WB.heap.size := g1.size
      have s2 : WB.heap.size ≤ (WB.drew.setCells w.heap.size ((i + 1) * 7) (xs.drop (i * 7))).heap.size := g2.size
      have s0 := hbl.size
      refine ⟨_, rfl, o2, ⟨g2.os.trans (g1.os.trans hbl.os), g2.tape.trans (g1.tape.trans hbl.tape), g2.output.trans (g1.output.trans hbl.output), by omega, fun k hk hne => ?_⟩, fun g h => .inr (by simp only [Value.ownBlock, Option.some.injEq] at h; omega)⟩
      have hkn : some k ≠ some w.heap.size := fun h => by cases h; omega
      have b2 : _ = WB.heap[k]? := g2.block k (show k < WB.heap.size by omega) hkn
      have b1 : WB.heap[k]? = WA.heap[k]? := g1.block k (show k < WA.heap.size by omega) hkn
      exact b2.trans (b1.trans (hbl.block k hk))


end Go.Proofs.Ytogbaoggebghdaa
