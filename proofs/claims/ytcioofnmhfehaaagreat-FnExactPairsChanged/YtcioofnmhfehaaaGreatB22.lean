/-
  OWN TEXT: MarkStay, MarkRoom, MarkSeat.
-/
import Derived.Test.YtcioofnmhfehaaaGreatB05
import Derived.Test.YtcioofnmhfehaaaGreatB06
namespace Go.Proofs.YtcioofnmhfehaaaGreat
open Go.RowKit

/-- What is marked at place t from the number k0 on. -/
def stayMark (k0 : Int) (t : Nat) : Stay := ⟨k0 + 4 * t, k0 + 4 * t + 1, k0 + 4 * t + 2, k0 + 4 * t + 3⟩

set_option maxHeartbeats 1600000 in
set_option maxRecDepth 100000 in
theorem markStayS_own (ao : Option Addr) (n c base : Nat) (S : Nat → Stay) (k0 : Int) (w : World) (hn : n ≤ 2097152) (h0 : 0 ≤ k0) (h1 : k0 ≤ 1000000000000000) (ho : w.ownsRow base 57 4 (.slice ao n c) n (stayList S n)) :
    Calls Tryz.prog 53 #[.slice ao n c, .int .i64 k0] w fun e w' => e = .returned (.int .i64 (k0 + 4 * n)) ∧ w'.ownsRow base 57 4 (.slice ao n c) n (stayList (stayMark k0) n) ∧ Kept w w' (fun b => (Value.slice ao n c).ownBlock = some b) := by
  go_enter Tryz.func53, Tryz.ntmps53
  go_wp2
  go_loopw [1, 5] (fun q i wr => ∃ (t : Nat), t ≤ n ∧ i = .int .i64 t ∧ q = .int .i64 (k0 + 4 * t) ∧ wr.ownsRow base 57 4 (.slice ao n c) n ((List.range (n * 4)).map (stayCell (fun i => if i < t then stayMark k0 i else S i))) ∧ Kept w wr (fun b => (Value.slice ao n c).ownBlock = some b)) (fun _ i _ => n - (intOf i).toNat)
  case atStart => exact ⟨0, Nat.zero_le _, rfl, by simp, by simpa [stayList] using ho, Kept.refl _ _⟩
  case round =>
    obtain ⟨t, ht, rfl, rfl, hown, hk⟩ := hrel
    by_cases hlt : t < n
    · obtain ⟨g, rfl, hg1, hg2⟩ := own_addr hown (by omega)
      have hc0 := own_cell hown (t * 4) (by omega) rfl
      have hf0 := hown.frozenAt (t * 4)
      rw [stayCell_0] at hc0
      have hc1 := own_cell hown (t * 4 + 1) (by omega) rfl
      have hf1 := hown.frozenAt (t * 4 + 1)
      rw [stayCell_1] at hc1
      have hc2 := own_cell hown (t * 4 + 2) (by omega) rfl
      have hf2 := hown.frozenAt (t * 4 + 2)
      rw [stayCell_2] at hc2
      have hc3 := own_cell hown (t * 4 + 3) (by omega) rfl
      have hf3 := hown.frozenAt (t * 4 + 3)
      rw [stayCell_3] at hc3
      go_wp2
      go_roundw
      case rel =>
        refine ⟨t + 1, by omega, by go_num, by go_num, own_congr (own_store (own_store (own_store (own_store hown (t * 4) _) (t * 4 + 1) _) (t * 4 + 2) _) (t * 4 + 3) _) (fun j hj => ?_), ((((hk.set (a := ⟨g, t * 4, none⟩) rfl _).set (a := ⟨g, t * 4 + 1, none⟩) rfl _).set (a := ⟨g, t * 4 + 2, none⟩) rfl _).set (a := ⟨g, t * 4 + 3, none⟩) rfl _)⟩
        have key : ∀ (S' : Nat → Stay), (∀ i, i ≠ t → S' i = (if i < t then stayMark k0 i else S i)) → (S' t = stayMark k0 t) → stayCell S' j = stayCell (fun i => if i < t + 1 then stayMark k0 i else S i) j := by
          intro S' h1 h2
          unfold stayCell
          have : S' (j / 4) = (if j / 4 < t + 1 then stayMark k0 (j / 4) else S (j / 4)) := by
            by_cases e : j / 4 = t
            · rw [e, h2, if_pos (by omega)]
            · rw [h1 _ e]
              by_cases e2 : j / 4 < t
              · rw [if_pos e2, if_pos (by omega)]
              · rw [if_neg e2, if_neg (by omega)]
          rw [this]
        rw [← key (fun i => if i = t then stayMark k0 t else if i < t then stayMark k0 i else S i) (fun i h => if_neg h) (if_pos rfl)]
        by_cases h3 : j = t * 4 + 3
        · subst h3; rw [if_pos rfl, stayCell_3, if_pos rfl]; simp [stayMark]; try omega
        rw [if_neg h3]
        by_cases h2 : j = t * 4 + 2
        · subst h2; rw [if_pos rfl, stayCell_2, if_pos rfl]; simp [stayMark]; try omega
        rw [if_neg h2]
        by_cases h1 : j = t * 4 + 1
        · subst h1; rw [if_pos rfl, stayCell_1, if_pos rfl]; simp [stayMark]; try omega
        rw [if_neg h1]
        by_cases h0 : j = t * 4
        · subst h0; rw [if_pos rfl, stayCell_0, if_pos rfl]; simp [stayMark]; try omega
        rw [if_neg h0]
        have hne : j / 4 ≠ t := by omega
        unfold stayCell
        simp only [if_neg hne]
      case measure => simp [intOf]; omega
    · obtain rfl : t = n := by omega
      go_wp2
      go_ret
      refine ⟨rfl, ?_, hk⟩
      rw [stayList_congr (S := stayMark k0) (S' := fun i => if i < t then stayMark k0 i else S i) (fun i hi => (if_pos hi).symm)]
      exact hown

end Go.Proofs.YtcioofnmhfehaaaGreat

namespace Go.Proofs.YtcioofnmhfehaaaGreat
open Go.RowKit

/-- What is marked at place t from the number k0 on. -/
def roomMark (k0 : Int) (t : Nat) : Room := ⟨k0 + 4 * t, k0 + 4 * t + 1, k0 + 4 * t + 2, ((k0 + 4 * (t : Int) + 3) % 3 == 0)⟩

set_option maxHeartbeats 1600000 in
set_option maxRecDepth 100000 in
theorem markRoomS_own (ao : Option Addr) (n c base : Nat) (S : Nat → Room) (k0 : Int) (w : World) (hn : n ≤ 2097152) (h0 : 0 ≤ k0) (h1 : k0 ≤ 1000000000000000) (ho : w.ownsRow base 59 4 (.slice ao n c) n (roomList S n)) :
    Calls Tryz.prog 54 #[.slice ao n c, .int .i64 k0] w fun e w' => e = .returned (.int .i64 (k0 + 4 * n)) ∧ w'.ownsRow base 59 4 (.slice ao n c) n (roomList (roomMark k0) n) ∧ Kept w w' (fun b => (Value.slice ao n c).ownBlock = some b) := by
  go_enter Tryz.func54, Tryz.ntmps54
  go_wp2
  go_loopw [1, 5] (fun q i wr => ∃ (t : Nat), t ≤ n ∧ i = .int .i64 t ∧ q = .int .i64 (k0 + 4 * t) ∧ wr.ownsRow base 59 4 (.slice ao n c) n ((List.range (n * 4)).map (roomCell (fun i => if i < t then roomMark k0 i else S i))) ∧ Kept w wr (fun b => (Value.slice ao n c).ownBlock = some b)) (fun _ i _ => n - (intOf i).toNat)
  case atStart => exact ⟨0, Nat.zero_le _, rfl, by simp, by simpa [roomList] using ho, Kept.refl _ _⟩
  case round =>
    obtain ⟨t, ht, rfl, rfl, hown, hk⟩ := hrel
    by_cases hlt : t < n
    · obtain ⟨g, rfl, hg1, hg2⟩ := own_addr hown (by omega)
      have hc0 := own_cell hown (t * 4) (by omega) rfl
      have hf0 := hown.frozenAt (t * 4)
      rw [roomCell_0] at hc0
      have hc1 := own_cell hown (t * 4 + 1) (by omega) rfl
      have hf1 := hown.frozenAt (t * 4 + 1)
      rw [roomCell_1] at hc1
      have hc2 := own_cell hown (t * 4 + 2) (by omega) rfl
      have hf2 := hown.frozenAt (t * 4 + 2)
      rw [roomCell_2] at hc2
      have hc3 := own_cell hown (t * 4 + 3) (by omega) rfl
      have hf3 := hown.frozenAt (t * 4 + 3)
      rw [roomCell_3] at hc3
      go_wp2
      go_roundw
      case rel =>
        refine ⟨t + 1, by omega, by go_num, by go_num, own_congr (own_store (own_store (own_store (own_store hown (t * 4) _) (t * 4 + 1) _) (t * 4 + 2) _) (t * 4 + 3) _) (fun j hj => ?_), ((((hk.set (a := ⟨g, t * 4, none⟩) rfl _).set (a := ⟨g, t * 4 + 1, none⟩) rfl _).set (a := ⟨g, t * 4 + 2, none⟩) rfl _).set (a := ⟨g, t * 4 + 3, none⟩) rfl _)⟩
        have key : ∀ (S' : Nat → Room), (∀ i, i ≠ t → S' i = (if i < t then roomMark k0 i else S i)) → (S' t = roomMark k0 t) → roomCell S' j = roomCell (fun i => if i < t + 1 then roomMark k0 i else S i) j := by
          intro S' h1 h2
          unfold roomCell
          have : S' (j / 4) = (if j / 4 < t + 1 then roomMark k0 (j / 4) else S (j / 4)) := by
            by_cases e : j / 4 = t
            · rw [e, h2, if_pos (by omega)]
            · rw [h1 _ e]
              by_cases e2 : j / 4 < t
              · rw [if_pos e2, if_pos (by omega)]
              · rw [if_neg e2, if_neg (by omega)]
          rw [this]
        rw [← key (fun i => if i = t then roomMark k0 t else if i < t then roomMark k0 i else S i) (fun i h => if_neg h) (if_pos rfl)]
        by_cases h3 : j = t * 4 + 3
        · subst h3; rw [if_pos rfl, roomCell_3, if_pos rfl]; simp only [roomMark]; rw [show k0 + 4 * (t : Int) + 1 + 1 + 1 = k0 + 4 * (t : Int) + 3 by omega]
        rw [if_neg h3]
        by_cases h2 : j = t * 4 + 2
        · subst h2; rw [if_pos rfl, roomCell_2, if_pos rfl]; simp [roomMark]; try omega
        rw [if_neg h2]
        by_cases h1 : j = t * 4 + 1
        · subst h1; rw [if_pos rfl, roomCell_1, if_pos rfl]; simp [roomMark]; try omega
        rw [if_neg h1]
        by_cases h0 : j = t * 4
        · subst h0; rw [if_pos rfl, roomCell_0, if_pos rfl]; simp [roomMark]; try omega
        rw [if_neg h0]
        have hne : j / 4 ≠ t := by omega
        unfold roomCell
        simp only [if_neg hne]
      case measure => simp [intOf]; omega
    · obtain rfl : t = n := by omega
      go_wp2
      go_ret
      refine ⟨rfl, ?_, hk⟩
      rw [roomList_congr (S := roomMark k0) (S' := fun i => if i < t then roomMark k0 i else S i) (fun i hi => (if_pos hi).symm)]
      exact hown

end Go.Proofs.YtcioofnmhfehaaaGreat

namespace Go.Proofs.YtcioofnmhfehaaaGreat
open Go.RowKit

/-- What is marked at place t from the number k0 on. -/
def seatMark (k0 : Int) (t : Nat) : Seat := ⟨k0 + 2 * t, k0 + 2 * t + 1⟩

set_option maxHeartbeats 1600000 in
set_option maxRecDepth 100000 in
theorem markSeatS_own (ao : Option Addr) (n c base : Nat) (S : Nat → Seat) (k0 : Int) (w : World) (hn : n ≤ 2097152) (h0 : 0 ≤ k0) (h1 : k0 ≤ 1000000000000000) (ho : w.ownsRow base 61 2 (.slice ao n c) n (seatList S n)) :
    Calls Tryz.prog 55 #[.slice ao n c, .int .i64 k0] w fun e w' => e = .returned (.int .i64 (k0 + 2 * n)) ∧ w'.ownsRow base 61 2 (.slice ao n c) n (seatList (seatMark k0) n) ∧ Kept w w' (fun b => (Value.slice ao n c).ownBlock = some b) := by
  go_enter Tryz.func55, Tryz.ntmps55
  go_wp2
  go_loopw [1, 5] (fun q i wr => ∃ (t : Nat), t ≤ n ∧ i = .int .i64 t ∧ q = .int .i64 (k0 + 2 * t) ∧ wr.ownsRow base 61 2 (.slice ao n c) n ((List.range (n * 2)).map (seatCell (fun i => if i < t then seatMark k0 i else S i))) ∧ Kept w wr (fun b => (Value.slice ao n c).ownBlock = some b)) (fun _ i _ => n - (intOf i).toNat)
  case atStart => exact ⟨0, Nat.zero_le _, rfl, by simp, by simpa [seatList] using ho, Kept.refl _ _⟩
  case round =>
    obtain ⟨t, ht, rfl, rfl, hown, hk⟩ := hrel
    by_cases hlt : t < n
    · obtain ⟨g, rfl, hg1, hg2⟩ := own_addr hown (by omega)
      have hc0 := own_cell hown (t * 2) (by omega) rfl
      have hf0 := hown.frozenAt (t * 2)
      rw [seatCell_0] at hc0
      have hc1 := own_cell hown (t * 2 + 1) (by omega) rfl
      have hf1 := hown.frozenAt (t * 2 + 1)
      rw [seatCell_1] at hc1
      go_wp2
      go_roundw
      case rel =>
        refine ⟨t + 1, by omega, by go_num, by go_num, own_congr (own_store (own_store hown (t * 2) _) (t * 2 + 1) _) (fun j hj => ?_), ((hk.set (a := ⟨g, t * 2, none⟩) rfl _).set (a := ⟨g, t * 2 + 1, none⟩) rfl _)⟩
        have key : ∀ (S' : Nat → Seat), (∀ i, i ≠ t → S' i = (if i < t then seatMark k0 i else S i)) → (S' t = seatMark k0 t) → seatCell S' j = seatCell (fun i => if i < t + 1 then seatMark k0 i else S i) j := by
          intro S' h1 h2
          unfold seatCell
          have : S' (j / 2) = (if j / 2 < t + 1 then seatMark k0 (j / 2) else S (j / 2)) := by
            by_cases e : j / 2 = t
            · rw [e, h2, if_pos (by omega)]
            · rw [h1 _ e]
              by_cases e2 : j / 2 < t
              · rw [if_pos e2, if_pos (by omega)]
              · rw [if_neg e2, if_neg (by omega)]
          rw [this]
        rw [← key (fun i => if i = t then seatMark k0 t else if i < t then seatMark k0 i else S i) (fun i h => if_neg h) (if_pos rfl)]
        by_cases h1 : j = t * 2 + 1
        · subst h1; rw [if_pos rfl, seatCell_1, if_pos rfl]; simp [seatMark]; try omega
        rw [if_neg h1]
        by_cases h0 : j = t * 2
        · subst h0; rw [if_pos rfl, seatCell_0, if_pos rfl]; simp [seatMark]; try omega
        rw [if_neg h0]
        have hne : j / 2 ≠ t := by omega
        unfold seatCell
        simp only [if_neg hne]
      case measure => simp [intOf]; omega
    · obtain rfl : t = n := by omega
      go_wp2
      go_ret
      refine ⟨rfl, ?_, hk⟩
      rw [seatList_congr (S := seatMark k0) (S' := fun i => if i < t then seatMark k0 i else S i) (fun i hi => (if_pos hi).symm)]
      exact hown

end Go.Proofs.YtcioofnmhfehaaaGreat
