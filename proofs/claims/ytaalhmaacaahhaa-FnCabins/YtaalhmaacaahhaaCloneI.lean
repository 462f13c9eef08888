/-
  OWN TEXT: the contract of slices.Clone at numbers that are there.
-/
import Derived.Test.YtaalhmaacaahhaaRows
import Derived.Test.YtaalhmaacaahhaaKitB
import Derived.Deep.LoopGhost
import Derived.Lib.SliceRun
namespace Go.Proofs.Ytaalhmaacaahhaa
open Go.RowKit

theorem ints_cellsF {w : World} {ao : Option Addr} {n : Nat} {F : Nat → Int} (h : IntsAt w ao n F) : ∀ ad, ao = some ad → ∀ j u, (intList F n)[j]? = some u → w.cell? (ad.add j) = some u := by
  intro ad e j u hu
  obtain ⟨hj, rfl⟩ := intList_get _ _ _ _ hu
  obtain ⟨b, off, e2, hc⟩ := h j hj
  rw [e] at e2
  cases e2
  rw [Addr.add_lit]
  exact hc

set_option maxHeartbeats 800000 in
theorem cloneInts (ad : Addr) (n c : Nat) (F : Nat → Int) (w : World) (hn : n ≤ 1048576) (hx : IntsAt w (some ad) n F) :
    Calls Try.prog 117 #[.slice (some ad) n c] w fun e w' => (∃ v, e = .returned v ∧ w'.ownsRow w.heap.size 3 1 v n (intList F n)) ∧ Below w.heap.size w w' := by
  obtain ⟨j0, ji, jz0, jz1, jz2⟩ := info_parts Try.infoInt
  have hb0 : Below w.heap.size w (w.alloc (.cells #[] 3)) := push (Below.refl _ _) _
  have ho : (w.alloc (.cells #[] 3)).ownsRow w.heap.size 3 1 (.slice (some ⟨w.heap.size, 0, none⟩) 0 0) 0 [] := ⟨rfl, .inr ⟨w.heap.size, 0, #[], rfl, Nat.le_refl _, heap_alloc_new w _, Nat.le_refl _, Nat.zero_le _, rfl, rfl⟩⟩
  have HC : Hid (∀ ad', (some ad : Option Addr) = some ad' → ∀ j u, (intList F n)[j]? = some u → (w.alloc (.cells #[] 3)).cell? (ad'.add j) = some u) := ints_cellsF (hx.below hb0)
  have qT : ∀ (w : World) (a : Option Addr) (n c n' c' : Nat), (binOp .eql 24 (.slice a n c) (.slice none n' c')).run Try.prog w = .ok (.bool a.isNone) w := fun w a n c n' c' => Lib.run_eql_slice_nil w _ _ a n c n' c' Try.underlying24
  go_enter Try.func117, Try.ntmps117
  go_wp2_with (first | (at_builtin; refine wpList_append_any _ (by rfl) (.tmp 5) (.tmp 6) 24 (by rfl) w.heap.size 3 j0 (.int .i64 0) 1 8 Try.underlying24 ji jz0 jz1 jz2 rfl (by decide) _ 0 [] (by rfl) ho (some ad) n c (intList F n) (by rfl) (fun h => (by cases h)) (by rw [intList_length, Nat.mul_one]) HC.out (intList_one _ _) (by unfold maxLen; omega) (by omega) (by simp) ?_; intro v' w3 ho3 hg3))
  go_ret
  rw [Nat.zero_add, List.nil_append] at ho3
  exact ⟨⟨_, rfl, ho3⟩, hb0.grown hg3 (by simp) (fun j hj => (ho.lt j hj).1)⟩

end Go.Proofs.Ytaalhmaacaahhaa
