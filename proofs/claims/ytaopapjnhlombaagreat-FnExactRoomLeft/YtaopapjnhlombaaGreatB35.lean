/-
  OWN TEXT: MarkRoom, MarkSeat, OwnAny.
-/
import Derived.Deep.Slices
import Derived.Test.YtaopapjnhlombaaGreatB04
import Derived.Test.YtaopapjnhlombaaGreatB05
import Derived.Test.YtaopapjnhlombaaGreatB01
namespace Go.Proofs.YtaopapjnhlombaaGreat
open Go.RowKit

/-- What is marked at place t from the number k0 on. -/
def roomMark (k0 : Int) (t : Nat) : Room := ⟨k0 + 4 * t, k0 + 4 * t + 1, k0 + 4 * t + 2, ((k0 + 4 * (t : Int) + 3) % 3 == 0)⟩

set_option maxHeartbeats 1600000 in
set_option maxRecDepth 100000 in
theorem markRoomS_own (ao : Option Addr) (n c base : Nat) (S : Nat → Room) (k0 : Int) (w : World) (hn : n ≤ 2097152) (h0 : 0 ≤ k0) (h1 : k0 ≤ 1000000000000000) (ho : w.ownsRow base 128 4 (.slice ao n c) n (roomList S n)) :
    Calls Tryz.prog 80 #[.slice ao n c, .int .i64 k0] w fun e w' => e = .returned (.int .i64 (k0 + 4 * n)) ∧ w'.ownsRow base 128 4 (.slice ao n c) n (roomList (roomMark k0) n) ∧ Kept w w' (fun b => (Value.slice ao n c).ownBlock = some b) := by
  go_enter Tryz.func80, Tryz.ntmps80
  go_wp2
  go_loopw [1, 5] (fun q i wr => ∃ (t : Nat), t ≤ n ∧ i = .int .i64 t ∧ q = .int .i64 (k0 + 4 * t) ∧ wr.ownsRow base 128 4 (.slice ao n c) n ((List.range (n * 4)).map (roomCell (fun i => if i < t then roomMark k0 i else S i))) ∧ Kept w wr (fun b => (Value.slice ao n c).ownBlock = some b)) (fun _ i _ => n - (intOf i).toNat)
  case atStart => exact ⟨0, Nat.zero_le _, rfl, by simp, by simpa [roomList] using ho, Kept.refl _ _⟩
  case round =>
    obtain ⟨t, ht, rfl, rfl, hown, hk⟩ := hrel
    by_cases hlt : t < n
    · obtain ⟨g, rfl, hg1, hg2⟩ := own_addr hown (by omega)
      have hc0 := own_cell hown (t * 4) (by omega) rfl
      have hf0 := hown.frozenAt (t * 4)
      rw [roomCell_0] at hc0
      have hc1 := own_cell hown (t * 4 + 1) (by omega) rfl
      have hf1 := hown.frozenAt (t * 4 + 1)
      rw [roomCell_1] at hc1
      have hc2 := own_cell hown (t * 4 + 2) (by omega) rfl
      have hf2 := hown.frozenAt (t * 4 + 2)
      rw [roomCell_2] at hc2
      have hc3 := own_cell hown (t * 4 + 3) (by omega) rfl
      have hf3 := hown.frozenAt (t * 4 + 3)
      rw [roomCell_3] at hc3
      go_wp2
      go_roundw
      case rel =>
        refine ⟨t + 1, by omega, by go_num, by go_num, own_congr (own_store (own_store (own_store (own_store hown (t * 4) _) (t * 4 + 1) _) (t * 4 + 2) _) (t * 4 + 3) _) (fun j hj => ?_), ((((hk.set (a := ⟨g, t * 4, none⟩) rfl _).set (a := ⟨g, t * 4 + 1, none⟩) rfl _).set (a := ⟨g, t * 4 + 2, none⟩) rfl _).set (a := ⟨g, t * 4 + 3, none⟩) rfl _)⟩
        have key : ∀ (S' : Nat → Room), (∀ i, i ≠ t → S' i = (if i < t then roomMark k0 i else S i)) → (S' t = roomMark k0 t) → roomCell S' j = roomCell (fun i => if i < t + 1 then roomMark k0 i else S i) j := by
          intro S' h1 h2
          unfold roomCell
          have : S' (j / 4) = (if j / 4 < t + 1 then roomMark k0 (j / 4) else S (j / 4)) := by
            by_cases e : j / 4 = t
            · rw [e, h2, if_pos (by omega)]
            · rw [h1 _ e]
              by_cases e2 : j / 4 < t
              · rw [if_pos e2, if_pos (by omega)]
              · rw [if_neg e2, if_neg (by omega)]
          rw [this]
        rw [← key (fun i => if i = t then roomMark k0 t else if i < t then roomMark k0 i else S i) (fun i h => if_neg h) (if_pos rfl)]
        by_cases h3 : j = t * 4 + 3
        · subst h3; rw [if_pos rfl, roomCell_3, if_pos rfl]; simp only [roomMark]; rw [show k0 + 4 * (t : Int) + 1 + 1 + 1 = k0 + 4 * (t : Int) + 3 by omega]
        rw [if_neg h3]
        by_cases h2 : j = t * 4 + 2
        · subst h2; rw [if_pos rfl, roomCell_2, if_pos rfl]; simp [roomMark]; try omega
        rw [if_neg h2]
        by_cases h1 : j = t * 4 + 1
        · subst h1; rw [if_pos rfl, roomCell_1, if_pos rfl]; simp [roomMark]; try omega
        rw [if_neg h1]
        by_cases h0 : j = t * 4
        · subst h0; rw [if_pos rfl, roomCell_0, if_pos rfl]; simp [roomMark]; try omega
        rw [if_neg h0]
        have hne : j / 4 ≠ t := by omega
        unfold roomCell
        simp only [if_neg hne]
      case measure => simp [intOf]; omega
    · obtain rfl : t = n := by omega
      go_wp2
      go_ret
      refine ⟨rfl, ?_, hk⟩
      rw [roomList_congr (S := roomMark k0) (S' := fun i => if i < t then roomMark k0 i else S i) (fun i hi => (if_pos hi).symm)]
      exact hown

end Go.Proofs.YtaopapjnhlombaaGreat

namespace Go.Proofs.YtaopapjnhlombaaGreat
open Go.RowKit

/-- What is marked at place t from the number k0 on. -/
def seatMark (k0 : Int) (t : Nat) : Seat := ⟨k0 + 2 * t, k0 + 2 * t + 1⟩

set_option maxHeartbeats 1600000 in
set_option maxRecDepth 100000 in
theorem markSeatS_own (ao : Option Addr) (n c base : Nat) (S : Nat → Seat) (k0 : Int) (w : World) (hn : n ≤ 2097152) (h0 : 0 ≤ k0) (h1 : k0 ≤ 1000000000000000) (ho : w.ownsRow base 130 2 (.slice ao n c) n (seatList S n)) :
    Calls Tryz.prog 81 #[.slice ao n c, .int .i64 k0] w fun e w' => e = .returned (.int .i64 (k0 + 2 * n)) ∧ w'.ownsRow base 130 2 (.slice ao n c) n (seatList (seatMark k0) n) ∧ Kept w w' (fun b => (Value.slice ao n c).ownBlock = some b) := by
  go_enter Tryz.func81, Tryz.ntmps81
  go_wp2
  go_loopw [1, 5] (fun q i wr => ∃ (t : Nat), t ≤ n ∧ i = .int .i64 t ∧ q = .int .i64 (k0 + 2 * t) ∧ wr.ownsRow base 130 2 (.slice ao n c) n ((List.range (n * 2)).map (seatCell (fun i => if i < t then seatMark k0 i else S i))) ∧ Kept w wr (fun b => (Value.slice ao n c).ownBlock = some b)) (fun _ i _ => n - (intOf i).toNat)
  case atStart => exact ⟨0, Nat.zero_le _, rfl, by simp, by simpa [seatList] using ho, Kept.refl _ _⟩
  case round =>
    obtain ⟨t, ht, rfl, rfl, hown, hk⟩ := hrel
    by_cases hlt : t < n
    · obtain ⟨g, rfl, hg1, hg2⟩ := own_addr hown (by omega)
      have hc0 := own_cell hown (t * 2) (by omega) rfl
      have hf0 := hown.frozenAt (t * 2)
      rw [seatCell_0] at hc0
      have hc1 := own_cell hown (t * 2 + 1) (by omega) rfl
      have hf1 := hown.frozenAt (t * 2 + 1)
      rw [seatCell_1] at hc1
      go_wp2
      go_roundw
      case rel =>
        refine ⟨t + 1, by omega, by go_num, by go_num, own_congr (own_store (own_store hown (t * 2) _) (t * 2 + 1) _) (fun j hj => ?_), ((hk.set (a := ⟨g, t * 2, none⟩) rfl _).set (a := ⟨g, t * 2 + 1, none⟩) rfl _)⟩
        have key : ∀ (S' : Nat → Seat), (∀ i, i ≠ t → S' i = (if i < t then seatMark k0 i else S i)) → (S' t = seatMark k0 t) → seatCell S' j = seatCell (fun i => if i < t + 1 then seatMark k0 i else S i) j := by
          intro S' h1 h2
          unfold seatCell
          have : S' (j / 2) = (if j / 2 < t + 1 then seatMark k0 (j / 2) else S (j / 2)) := by
            by_cases e : j / 2 = t
            · rw [e, h2, if_pos (by omega)]
            · rw [h1 _ e]
              by_cases e2 : j / 2 < t
              · rw [if_pos e2, if_pos (by omega)]
              · rw [if_neg e2, if_neg (by omega)]
          rw [this]
        rw [← key (fun i => if i = t then seatMark k0 t else if i < t then seatMark k0 i else S i) (fun i h => if_neg h) (if_pos rfl)]
        by_cases h1 : j = t * 2 + 1
        · subst h1; rw [if_pos rfl, seatCell_1, if_pos rfl]; simp [seatMark]; try omega
        rw [if_neg h1]
        by_cases h0 : j = t * 2
        · subst h0; rw [if_pos rfl, seatCell_0, if_pos rfl]; simp [seatMark]; try omega
        rw [if_neg h0]
        have hne : j / 2 ≠ t := by omega
        unfold seatCell
        simp only [if_neg hne]
      case measure => simp [intOf]; omega
    · obtain rfl : t = n := by omega
      go_wp2
      go_ret
      refine ⟨rfl, ?_, hk⟩
      rw [seatList_congr (S := seatMark k0) (S' := fun i => if i < t then seatMark k0 i else S i) (fun i hi => (if_pos hi).symm)]
      exact hown

end Go.Proofs.YtaopapjnhlombaaGreat

namespace Go.Proofs.YtaopapjnhlombaaGreat
open Go.RowKit

/-- The block b, from base on, is a row of n elements, of a form. -/
def OwnAny (w : World) (base t sz b n : Nat) (Q : List Value → Prop) : Prop := ∃ xs, Q xs ∧ w.ownsRow base t sz (.slice (some ⟨b, 0, none⟩) n n) n xs
theorem own_block {w : World} {base t sz b n : Nat} {xs : List Value} (h : w.ownsRow base t sz (.slice (some ⟨b, 0, none⟩) n n) n xs) : ∃ cur, w.heap[b]? = some (.cells cur t (0, 0)) ∧ cur.size = n * sz := by
  rcases h.2 with ⟨h0, _⟩ | ⟨g, cap, cur, hv, _, hg, _, _, hs, _⟩
  · cases h0
  · simp only [Value.slice.injEq, Option.some.injEq, Addr.mk.injEq] at hv
    obtain ⟨⟨rfl, _, _⟩, _, rfl⟩ := hv
    exact ⟨cur, hg, hs⟩
theorem OwnAny.lt {w : World} {base t sz b n : Nat} {Q : List Value → Prop} (h : OwnAny w base t sz b n Q) : b < w.heap.size := by
  obtain ⟨xs, _, ho⟩ := h
  obtain ⟨cur, hg, _⟩ := own_block ho
  exact blk_lt hg
/-- Another row, or itself, is marked. -/
theorem OwnAny.after {w w' : World} {base t sz b n t' sz' g n' : Nat} {Q Q' : List Value → Prop} (h : OwnAny w base t sz b n Q) (hg : OwnAny w base t' sz' g n' Q') (hk : Kept w w' (fun x => x = g)) (hz : 0 < sz) (he : t = t' → sz = sz') (hs : t = t' → n = n' → OwnAny w' base t sz g n Q) : OwnAny w' base t sz b n Q := by
  by_cases e : b = g
  · subst e
    obtain ⟨xs, hq, ho⟩ := h
    obtain ⟨ys, hq', ho'⟩ := hg
    obtain ⟨c1, g1, s1⟩ := own_block ho
    obtain ⟨c2, g2, s2⟩ := own_block ho'
    rw [g1] at g2
    simp only [Option.some.injEq, Obj.cells.injEq] at g2
    obtain ⟨rfl, rfl, _⟩ := g2
    obtain rfl := he rfl
    exact hs rfl (Nat.eq_of_mul_eq_mul_right hz (s1.symm.trans s2))
  · obtain ⟨xs, hq, ho⟩ := h
    exact ⟨xs, hq, hk.own ho (fun b' hb' e' => by simp only [Value.ownBlock, Option.some.injEq] at hb'; omega)⟩
theorem OwnAny.kept {w w' : World} {base t sz b n : Nat} {Q : List Value → Prop} {T : Nat → Prop} (h : OwnAny w base t sz b n Q) (hk : Kept w w' T) (hT : ¬ T b) : OwnAny w' base t sz b n Q := by
  obtain ⟨xs, hq, ho⟩ := h
  exact ⟨xs, hq, hk.own ho (fun b' hb' e' => by simp only [Value.ownBlock, Option.some.injEq] at hb'; subst hb'; exact hT e')⟩

end Go.Proofs.YtaopapjnhlombaaGreat
