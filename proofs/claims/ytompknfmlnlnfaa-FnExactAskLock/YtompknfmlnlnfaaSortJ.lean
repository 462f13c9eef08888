/-
  OWN TEXT: the contract of slices.Sort at a short list of unlike numbers that the call owns, second part.
-/
import Derived.Test.YtompknfmlnlnfaaSortI
namespace Go.Proofs.Ytompknfmlnlnfaa
open Go.RowKit

theorem len_few (n : Nat) (w : World) (hn : n ≤ 12) : Calls Try.prog 71 #[.int .u64 n] w fun e w' => (∃ r : Int, e = .returned (.int .i64 r)) ∧ w' = w := by
  go_enter Try.func71, Try.ntmps71
  go_wp2_with fail
  refine (len64_few n _ hn).mono ?_
  rintro e w' ⟨⟨r, rfl⟩, rfl⟩
  go_wp2
  go_ret
  exact ⟨⟨_, rfl⟩, rfl⟩

set_option maxHeartbeats 1600000 in
set_option maxRecDepth 100000 in
theorem pdq_own (ao : Option Addr) (n c base : Nat) (f : Nat → Int) (r : Int) (w : World) (hn : n ≤ 12) (hi : InjTo f n) (ho : w.ownsRow base 3 1 (.slice ao n c) n (intList f n)) :
    Calls Try.prog 70 #[.slice ao n c, .int .i64 0, .int .i64 n, .int .i64 r] w fun e w' => e = .returned (.tuple #[]) ∧ (∃ f', w'.ownsRow base 3 1 (.slice ao n c) n (intList f' n) ∧ Hid (RiseTo f' n ∧ SameTo f' f n)) ∧ Kept w w' (fun b => (Value.slice ao n c).ownBlock = some b) := by
  have HI : Hid (InjTo f n) := hi
  clear hi
  have d0 : decide ((n : Int) ≤ 12) = true := by simp; omega
  go_enter Try.func70, Try.ntmps70
  go_wp2
  go_loopg [1, 2] 1 (fun g i j wr => g = 1 ∧ i = .int .i64 0 ∧ j = .int .i64 n ∧ wr = w)
  case atStart => exact ⟨rfl, rfl, rfl, rfl⟩
  case round =>
    obtain ⟨rfl, rfl, rfl, rfl⟩ := hrel
    go_wp2_with fail
    refine (insertion_own ao n c base f _ hn HI.out ho).mono ?_
    rintro e w1 ⟨rfl, ⟨f', ho1, HF⟩, hk1⟩
    go_wp2
    first
      | exact bodyPost_ret (v := .tuple #[]) (by simp [results, Try.results70, go_sem]) rfl ⟨rfl, ⟨f', ho1, HF⟩, hk1⟩
      | exact bodyPost_end (v := .tuple #[]) (by simp [results, Try.results70, go_sem]) rfl ⟨rfl, ⟨f', ho1, HF⟩, hk1⟩

set_option maxHeartbeats 800000 in
theorem sort_own (ao : Option Addr) (n c base : Nat) (f : Nat → Int) (w : World) (hn : n ≤ 12) (hi : InjTo f n) (ho : w.ownsRow base 3 1 (.slice ao n c) n (intList f n)) :
    Calls Try.prog 52 #[.slice ao n c] w fun e w' => e = .returned (.tuple #[]) ∧ (∃ f', w'.ownsRow base 3 1 (.slice ao n c) n (intList f' n) ∧ Hid (RiseTo f' n ∧ SameTo f' f n)) ∧ Kept w w' (fun b => (Value.slice ao n c).ownBlock = some b) := by
  have HI : Hid (InjTo f n) := hi
  clear hi
  have hw : IntKind.u64.wrap (n : Int) = (n : Int) := by rw [IntKind.wrap_u64]; omega
  go_enter Try.func52, Try.ntmps52
  go_wp2_with fail
  refine (len_few n _ hn).mono ?_
  rintro e w' ⟨⟨r, rfl⟩, hw'⟩
  have hw1 := hw'.symm
  subst hw1
  go_wp2_with fail
  refine (pdq_own ao n c base f r _ hn HI.out ho).mono ?_
  rintro e w1 ⟨rfl, ⟨f', ho1, HF⟩, hk1⟩
  go_wp2
  first
    | exact bodyPost_end (v := .tuple #[]) (by simp [results, Try.results52, go_sem]) rfl ⟨rfl, ⟨f', ho1, HF⟩, hk1⟩
    | exact bodyPost_ret (v := .tuple #[]) (by simp [results, Try.results52, go_sem]) rfl ⟨rfl, ⟨f', ho1, HF⟩, hk1⟩

theorem getI_of (f : Nat → Int) (n k : Nat) (h : k < n) : getI ((List.range n).map f) k = f k := by
  simp [getI, List.getElem?_range h]
/-- The list that was sorted, as a rising list of the same numbers. -/
theorem sort_list {f' : Nat → Int} {ks : List Int} {n : Nat} (hn : n = ks.length) (hr : RiseTo f' n) (hs : SameTo f' (getI ks) n) : ∃ ts, Strict ts ∧ (∀ y, y ∈ ts ↔ y ∈ ks) ∧ ts.length = ks.length ∧ intList f' n = cellsI ts := by
  refine ⟨(List.range n).map f', ?_, ?_, by simp [hn], ?_⟩
  · refine List.pairwise_map.2 (List.Pairwise.imp_of_mem (fun {a b} ha hb hab => ?_) List.pairwise_lt_range)
    exact hr a b hab (List.mem_range.1 hb)
  · intro y
    rw [getI_mem (ws := ks), ← hn, ← hs y]
    simp [List.mem_map]
  · unfold cellsI intList
    rw [List.length_map, List.length_range]
    refine List.map_congr_left (fun k hk => ?_)
    rw [getI_of f' n k (List.mem_range.1 hk)]
theorem inj_of_nodup {ks : List Int} (h : ks.Nodup) : InjTo (getI ks) ks.length := by
  intro p q hpq hq e
  have hp : p < ks.length := by omega
  simp only [getI, List.getD_eq_getElem?_getD, List.getElem?_eq_getElem hp, List.getElem?_eq_getElem hq, Option.getD_some] at e
  have := (List.getElem_inj h).1 e
  omega

end Go.Proofs.Ytompknfmlnlnfaa
