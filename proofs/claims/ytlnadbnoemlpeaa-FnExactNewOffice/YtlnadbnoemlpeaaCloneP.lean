/-
  OWN TEXT: contracts of slices.Clone at lanes and at cabins.
-/
import Derived.Test.YtlnadbnoemlpeaaKitOwn
import Derived.Test.YtlnadbnoemlpeaaKitB
import Derived.Deep.LoopGhost
import Derived.Lib.SliceRun
namespace Go.Proofs.Ytlnadbnoemlpeaa
open Go.RowKit

theorem Try.infoLane' : (Try.prog.info? 77).map (fun i => (i.zero, i.size, i.bytes)) = some (some (.agg #[.int .i64 0, .int .i64 0]), 2, 16) := by kernel_rfl

set_option maxHeartbeats 800000 in
theorem cloneLane (ao : Option Addr) (c : Nat) (p : Pairs) (w : World) (hn : p.n ≤ 1048576) (hx : PairsAt w ao p) (hnil : ao = none → p.n = 0 ∧ c = 0) :
    Calls Try.prog 38 #[.slice ao p.n c] w fun e w' => (∃ v, e = .returned v ∧ w'.ownsRow w.heap.size 77 2 v p.n (pairRow p)) ∧ Below w.heap.size w w' := by
  have qT : ∀ (w : World) (a : Option Addr) (n c n' c' : Nat), (binOp .eql 44 (.slice a n c) (.slice none n' c')).run Try.prog w = .ok (.bool a.isNone) w := fun w a n c n' c' => Lib.run_eql_slice_nil w _ _ a n c n' c' Try.underlying44
  cases ao with
  | none =>
    obtain ⟨h0, rfl⟩ := hnil rfl
    have HP : Hid (p.n = 0) := h0
    rw [h0]
    clear h0 hnil hx hn
    go_enter Try.func38, Try.ntmps38
    go_wp2
    go_ret
    refine ⟨⟨_, rfl, ?_⟩, Below.refl _ _⟩
    have : pairRow p = [] := by unfold pairRow; rw [HP.out]; rfl
    rw [this]
    exact World.ownsRow_nil _ _ _ _
  | some ad =>
    obtain ⟨j0, ji, jz0, jz1, jz2⟩ := info_parts Try.infoLane'
    have hb0 : Below w.heap.size w (w.alloc (.cells #[] 77)) := push (Below.refl _ _) _
    have ho : (w.alloc (.cells #[] 77)).ownsRow w.heap.size 77 2 (.slice (some ⟨w.heap.size, 0, none⟩) 0 0) 0 [] := ⟨rfl, .inr ⟨w.heap.size, 0, #[], rfl, Nat.le_refl _, heap_alloc_new w _, Nat.le_refl _, Nat.zero_le _, rfl, rfl⟩⟩
    have HC : Hid (∀ ad', (some ad : Option Addr) = some ad' → ∀ j u, (pairRow p)[j]? = some u → (w.alloc (.cells #[] 77)).cell? (ad'.add j) = some u) := pairs_cells (hx.below hb0)
    clear hnil hx
    go_enter Try.func38, Try.ntmps38
    go_wp2_with (first | (at_builtin; refine wpList_append_any _ (by rfl) (.tmp 5) (.tmp 6) 44 (by rfl) w.heap.size 77 j0 (.agg #[.int .i64 0, .int .i64 0]) 2 16 Try.underlying44 ji jz0 jz1 jz2 rfl (by decide) _ 0 [] (by rfl) ho (some ad) p.n c (pairRow p) (by rfl) (fun h => (by cases h)) (pairRow_length p) HC.out (pairRow_one _) (by unfold maxLen; omega) (by omega) (by simp) ?_; intro v' w3 ho3 hg3))
    go_ret
    rw [Nat.zero_add, List.nil_append] at ho3
    exact ⟨⟨_, rfl, ho3⟩, hb0.grown hg3 (by simp) (fun j hj => (ho.lt j hj).1)⟩

theorem Try.infoCabin' : (Try.prog.info? 80).map (fun i => (i.zero, i.size, i.bytes)) = some (some (.agg #[.int .i64 0, .int .i64 0]), 2, 16) := by kernel_rfl

set_option maxHeartbeats 800000 in
theorem cloneCabin (ao : Option Addr) (c : Nat) (p : Pairs) (w : World) (hn : p.n ≤ 1048576) (hx : PairsAt w ao p) (hnil : ao = none → p.n = 0 ∧ c = 0) :
    Calls Try.prog 39 #[.slice ao p.n c] w fun e w' => (∃ v, e = .returned v ∧ w'.ownsRow w.heap.size 80 2 v p.n (pairRow p)) ∧ Below w.heap.size w w' := by
  have qT : ∀ (w : World) (a : Option Addr) (n c n' c' : Nat), (binOp .eql 45 (.slice a n c) (.slice none n' c')).run Try.prog w = .ok (.bool a.isNone) w := fun w a n c n' c' => Lib.run_eql_slice_nil w _ _ a n c n' c' Try.underlying45
  cases ao with
  | none =>
    obtain ⟨h0, rfl⟩ := hnil rfl
    have HP : Hid (p.n = 0) := h0
    rw [h0]
    clear h0 hnil hx hn
    go_enter Try.func39, Try.ntmps39
    go_wp2
    go_ret
    refine ⟨⟨_, rfl, ?_⟩, Below.refl _ _⟩
    have : pairRow p = [] := by unfold pairRow; rw [HP.out]; rfl
    rw [this]
    exact World.ownsRow_nil _ _ _ _
  | some ad =>
    obtain ⟨j0, ji, jz0, jz1, jz2⟩ := info_parts Try.infoCabin'
    have hb0 : Below w.heap.size w (w.alloc (.cells #[] 80)) := push (Below.refl _ _) _
    have ho : (w.alloc (.cells #[] 80)).ownsRow w.heap.size 80 2 (.slice (some ⟨w.heap.size, 0, none⟩) 0 0) 0 [] := ⟨rfl, .inr ⟨w.heap.size, 0, #[], rfl, Nat.le_refl _, heap_alloc_new w _, Nat.le_refl _, Nat.zero_le _, rfl, rfl⟩⟩
    have HC : Hid (∀ ad', (some ad : Option Addr) = some ad' → ∀ j u, (pairRow p)[j]? = some u → (w.alloc (.cells #[] 80)).cell? (ad'.add j) = some u) := pairs_cells (hx.below hb0)
    clear hnil hx
    go_enter Try.func39, Try.ntmps39
    go_wp2_with (first | (at_builtin; refine wpList_append_any _ (by rfl) (.tmp 5) (.tmp 6) 45 (by rfl) w.heap.size 80 j0 (.agg #[.int .i64 0, .int .i64 0]) 2 16 Try.underlying45 ji jz0 jz1 jz2 rfl (by decide) _ 0 [] (by rfl) ho (some ad) p.n c (pairRow p) (by rfl) (fun h => (by cases h)) (pairRow_length p) HC.out (pairRow_one _) (by unfold maxLen; omega) (by omega) (by simp) ?_; intro v' w3 ho3 hg3))
    go_ret
    rw [Nat.zero_add, List.nil_append] at ho3
    exact ⟨⟨_, rfl, ho3⟩, hb0.grown hg3 (by simp) (fun j hj => (ho.lt j hj).1)⟩

end Go.Proofs.Ytlnadbnoemlpeaa
