/-
  OWN TEXT: the contract of laws.markStayS.
-/
import Derived.Test.YthhflmafpobgeaiLStay
namespace Go.Proofs.Ythhflmafpobgeai
open Go.RowKit

/-- What is marked at place t from the number k0 on. -/
def stayMark (k0 : Int) (t : Nat) : Stay := ⟨k0 + 4 * t, k0 + 4 * t + 1, k0 + 4 * t + 2, k0 + 4 * t + 3⟩

set_option maxHeartbeats 1600000 in
set_option maxRecDepth 100000 in
theorem markStayS_own (ao : Option Addr) (n c base : Nat) (S : Nat → Stay) (k0 : Int) (w : World) (hn : n ≤ 2097152) (h0 : 0 ≤ k0) (h1 : k0 ≤ 1000000000000000) (ho : w.ownsRow base 46 4 (.slice ao n c) n (stayList S n)) :
    Calls Try.prog 14 #[.slice ao n c, .int .i64 k0] w fun e w' => e = .returned (.int .i64 (k0 + 4 * n)) ∧ w'.ownsRow base 46 4 (.slice ao n c) n (stayList (stayMark k0) n) ∧ Kept w w' (fun b => (Value.slice ao n c).ownBlock = some b) := by
  go_enter Try.func14, Try.ntmps14
  go_wp2
  go_loopw [1, 5] (fun q i wr => ∃ (t : Nat), t ≤ n ∧ i = .int .i64 t ∧ q = .int .i64 (k0 + 4 * t) ∧ wr.ownsRow base 46 4 (.slice ao n c) n ((List.range (n * 4)).map (stayCell (fun i => if i < t then stayMark k0 i else S i))) ∧ Kept w wr (fun b => (Value.slice ao n c).ownBlock = some b)) (fun _ i _ => n - (intOf i).toNat)
  case atStart => exact ⟨0, Nat.zero_le _, rfl, by simp, by simpa [stayList] using ho, Kept.refl _ _⟩
  case round =>
    obtain ⟨t, ht, rfl, rfl, hown, hk⟩ := hrel
    by_cases hlt : t < n
    · obtain ⟨g, rfl, hg1, hg2⟩ := own_addr hown (by omega)
      have hc0 := own_cell hown (t * 4) (by omega) rfl
      have hf0 := hown.frozenAt (t * 4)
      rw [stayCell_0] at hc0
      have hc1 := own_cell hown (t * 4 + 1) (by omega) rfl
      have hf1 := hown.frozenAt (t * 4 + 1)
      rw [stayCell_1] at hc1
      have hc2 := own_cell hown (t * 4 + 2) (by omega) rfl
      have hf2 := hown.frozenAt (t * 4 + 2)
      rw [stayCell_2] at hc2
      have hc3 := own_cell hown (t * 4 + 3) (by omega) rfl
      have hf3 := hown.frozenAt (t * 4 + 3)
      rw [stayCell_3] at hc3
      go_wp2
      go_roundw
      case rel =>
        refine ⟨t + 1, by omega, by go_num, by go_num, own_congr (own_store (own_store (own_store (own_store hown (t * 4) _) (t * 4 + 1) _) (t * 4 + 2) _) (t * 4 + 3) _) (fun j hj => ?_), ((((hk.set (a := ⟨g, t * 4, none⟩) rfl _).set (a := ⟨g, t * 4 + 1, none⟩) rfl _).set (a := ⟨g, t * 4 + 2, none⟩) rfl _).set (a := ⟨g, t * 4 + 3, none⟩) rfl _)⟩
        have key : ∀ (S' : Nat → Stay), (∀ i, i ≠ t → S' i = (if i < t then stayMark k0 i else S i)) → (S' t = stayMark k0 t) → stayCell S' j = stayCell (fun i => if i < t + 1 then stayMark k0 i else S i) j := by
          intro S' h1 h2
          unfold stayCell
          have : S' (j / 4) = (if j / 4 < t + 1 then stayMark k0 (j / 4) else S (j / 4)) := by
            by_cases e : j / 4 = t
            · rw [e, h2, if_pos (by omega)]
            · rw [h1 _ e]
              by_cases e2 : j / 4 < t
              · rw [if_pos e2, if_pos (by omega)]
              · rw [if_neg e2, if_neg (by omega)]
          rw [this]
        rw [← key (fun i => if i = t then stayMark k0 t else if i < t then stayMark k0 i else S i) (fun i h => if_neg h) (if_pos rfl)]
        by_cases h3 : j = t * 4 + 3
        · subst h3; rw [if_pos rfl, stayCell_3, if_pos rfl]; simp [stayMark]; try omega
        rw [if_neg h3]
        by_cases h2 : j = t * 4 + 2
        · subst h2; rw [if_pos rfl, stayCell_2, if_pos rfl]; simp [stayMark]; try omega
        rw [if_neg h2]
        by_cases h1 : j = t * 4 + 1
        · subst h1; rw [if_pos rfl, stayCell_1, if_pos rfl]; simp [stayMark]; try omega
        rw [if_neg h1]
        by_cases h0 : j = t * 4
        · subst h0; rw [if_pos rfl, stayCell_0, if_pos rfl]; simp [stayMark]; try omega
        rw [if_neg h0]
        have hne : j / 4 ≠ t := by omega
        unfold stayCell
        simp only [if_neg hne]
      case measure => simp [intOf]; omega
    · obtain rfl : t = n := by omega
      go_wp2
      go_ret
      refine ⟨rfl, ?_, hk⟩
      rw [stayList_congr (S := stayMark k0) (S' := fun i => if i < t then stayMark k0 i else S i) (fun i hi => (if_pos hi).symm)]
      exact hown

end Go.Proofs.Ythhflmafpobgeai
