/-
  OWN TEXT: the contract of laws.markSeatS.
-/
import Derived.Test.YtclcjnbjpelcjajLSeat
namespace Go.Proofs.Ytclcjnbjpelcjaj
open Go.RowKit

/-- What is marked at place t from the number k0 on. -/
def seatMark (k0 : Int) (t : Nat) : Seat := ⟨k0 + 2 * t, k0 + 2 * t + 1⟩

set_option maxHeartbeats 1600000 in
set_option maxRecDepth 100000 in
theorem markSeatS_own (ao : Option Addr) (n c base : Nat) (S : Nat → Seat) (k0 : Int) (w : World) (hn : n ≤ 2097152) (h0 : 0 ≤ k0) (h1 : k0 ≤ 1000000000000000) (ho : w.ownsRow base 35 2 (.slice ao n c) n (seatList S n)) :
    Calls Try.prog 12 #[.slice ao n c, .int .i64 k0] w fun e w' => e = .returned (.int .i64 (k0 + 2 * n)) ∧ w'.ownsRow base 35 2 (.slice ao n c) n (seatList (seatMark k0) n) ∧ Kept w w' (fun b => (Value.slice ao n c).ownBlock = some b) := by
  go_enter Try.func12, Try.ntmps12
  go_wp2
  go_loopw [1, 5] (fun q i wr => ∃ (t : Nat), t ≤ n ∧ i = .int .i64 t ∧ q = .int .i64 (k0 + 2 * t) ∧ wr.ownsRow base 35 2 (.slice ao n c) n ((List.range (n * 2)).map (seatCell (fun i => if i < t then seatMark k0 i else S i))) ∧ Kept w wr (fun b => (Value.slice ao n c).ownBlock = some b)) (fun _ i _ => n - (intOf i).toNat)
  case atStart => exact ⟨0, Nat.zero_le _, rfl, by simp, by simpa [seatList] using ho, Kept.refl _ _⟩
  case round =>
    obtain ⟨t, ht, rfl, rfl, hown, hk⟩ := hrel
    by_cases hlt : t < n
    · obtain ⟨g, rfl, hg1, hg2⟩ := own_addr hown (by omega)
      have hc0 := own_cell hown (t * 2) (by omega) rfl
      have hf0 := hown.frozenAt (t * 2)
      rw [seatCell_0] at hc0
      have hc1 := own_cell hown (t * 2 + 1) (by omega) rfl
      have hf1 := hown.frozenAt (t * 2 + 1)
      rw [seatCell_1] at hc1
      go_wp2
      go_roundw
      case rel =>
        refine ⟨t + 1, by omega, by go_num, by go_num, own_congr (own_store (own_store hown (t * 2) _) (t * 2 + 1) _) (fun j hj => ?_), ((hk.set (a := ⟨g, t * 2, none⟩) rfl _).set (a := ⟨g, t * 2 + 1, none⟩) rfl _)⟩
        have key : ∀ (S' : Nat → Seat), (∀ i, i ≠ t → S' i = (if i < t then seatMark k0 i else S i)) → (S' t = seatMark k0 t) → seatCell S' j = seatCell (fun i => if i < t + 1 then seatMark k0 i else S i) j := by
          intro S' h1 h2
          unfold seatCell
          have : S' (j / 2) = (if j / 2 < t + 1 then seatMark k0 (j / 2) else S (j / 2)) := by
            by_cases e : j / 2 = t
            · rw [e, h2, if_pos (by omega)]
            · rw [h1 _ e]
              by_cases e2 : j / 2 < t
              · rw [if_pos e2, if_pos (by omega)]
              · rw [if_neg e2, if_neg (by omega)]
          rw [this]
        rw [← key (fun i => if i = t then seatMark k0 t else if i < t then seatMark k0 i else S i) (fun i h => if_neg h) (if_pos rfl)]
        by_cases h1 : j = t * 2 + 1
        · subst h1; rw [if_pos rfl, seatCell_1, if_pos rfl]; simp [seatMark]; try omega
        rw [if_neg h1]
        by_cases h0 : j = t * 2
        · subst h0; rw [if_pos rfl, seatCell_0, if_pos rfl]; simp [seatMark]; try omega
        rw [if_neg h0]
        have hne : j / 2 ≠ t := by omega
        unfold seatCell
        simp only [if_neg hne]
      case measure => simp [intOf]; omega
    · obtain rfl : t = n := by omega
      go_wp2
      go_ret
      refine ⟨rfl, ?_, hk⟩
      rw [seatList_congr (S := seatMark k0) (S' := fun i => if i < t then seatMark k0 i else S i) (fun i hi => (if_pos hi).symm)]
      exact hown

end Go.Proofs.Ytclcjnbjpelcjaj
