/-
  OWN TEXT: MarkRoom, MarkSeat, OwnAny, MarkLd.
-/
import Derived.Deep.Slices
import Derived.Test.YtlelckbeoclhbaaGreatB32
import Derived.Test.YtlelckbeoclhbaaGreatB00
import Derived.Test.YtlelckbeoclhbaaGreatB10
import Derived.Test.YtlelckbeoclhbaaGreatB33
set_option maxHeartbeats 12800000
set_option maxRecDepth 100000
namespace Go.Proofs.YtlelckbeoclhbaaGreat
open Go.RowKit
def roomMark (k0 : Int) (t : Nat) : Room := ⟨k0 + 4 * t, k0 + 4 * t + 1, k0 + 4 * t + 2, ((k0 + 4 * (t : Int) + 3) % 3 == 0)⟩
theorem markRoomS_own (ao : Option Addr) (n c base : Nat) (S : Nat → Room) (k0 : Int) (w : World) (hn : n ≤ 2097152) (h0 : 0 ≤ k0) (h1 : k0 ≤ 1000000000000000) (ho : w.ownsRow base 120 4 (.slice ao n c) n (roomList S n)) :
    Calls Tryz.prog 78 #[.slice ao n c, .int .i64 k0] w fun e w' => e = .returned (.int .i64 (k0 + 4 * n)) ∧ w'.ownsRow base 120 4 (.slice ao n c) n (roomList (roomMark k0) n) ∧ Kept w w' (fun b => (Value.slice ao n c).ownBlock = some b) := by
  go_enter Tryz.func78, Tryz.ntmps78
  go_wp2
  go_loopw [1, 5] (fun q i wr => ∃ (t : Nat), t ≤ n ∧ i = .int .i64 t ∧ q = .int .i64 (k0 + 4 * t) ∧ wr.ownsRow base 120 4 (.slice ao n c) n ((List.range (n * 4)).map (roomCell (fun i => if i < t then roomMark k0 i else S i))) ∧ Kept w wr (fun b => (Value.slice ao n c).ownBlock = some b)) (fun _ i _ => n - (intOf i).toNat)
  case atStart => exact ⟨0, Nat.zero_le _, rfl, by simp, by simpa [roomList] using ho, Kept.refl _ _⟩
  case round =>
    obtain ⟨t, ht, rfl, rfl, hown, hk⟩ := hrel
    by_cases hlt : t < n
    · obtain ⟨g, rfl, hg1, hg2⟩ := own_addr hown (by omega)
      have hc0 := own_cell hown (t * 4) (by omega) rfl
      have hf0 := hown.frozenAt (t * 4)
      rw [roomCell_0] at hc0
      have hc1 := own_cell hown (t * 4 + 1) (by omega) rfl
      have hf1 := hown.frozenAt (t * 4 + 1)
      rw [roomCell_1] at hc1
      have hc2 := own_cell hown (t * 4 + 2) (by omega) rfl
      have hf2 := hown.frozenAt (t * 4 + 2)
      rw [roomCell_2] at hc2
      have hc3 := own_cell hown (t * 4 + 3) (by omega) rfl
      have hf3 := hown.frozenAt (t * 4 + 3)
      rw [roomCell_3] at hc3
      go_wp2
      go_roundw
      case rel =>
        refine ⟨t + 1, by omega, by go_num, by go_num, own_congr (own_store (own_store (own_store (own_store hown (t * 4) _) (t * 4 + 1) _) (t * 4 + 2) _) (t * 4 + 3) _) (fun j hj => ?_), ((((hk.set (a := ⟨g, t * 4, none⟩) rfl _).set (a := ⟨g, t * 4 + 1, none⟩) rfl _).set (a := ⟨g, t * 4 + 2, none⟩) rfl _).set (a := ⟨g, t * 4 + 3, none⟩) rfl _)⟩
        have key : ∀ (S' : Nat → Room), (∀ i, i ≠ t → S' i = (if i < t then roomMark k0 i else S i)) → (S' t = roomMark k0 t) → roomCell S' j = roomCell (fun i => if i < t + 1 then roomMark k0 i else S i) j := by
          intro S' h1 h2
          unfold roomCell
          have : S' (j / 4) = (if j / 4 < t + 1 then roomMark k0 (j / 4) else S (j / 4)) := by
            by_cases e : j / 4 = t
            · rw [e, h2, if_pos (by omega)]
            · rw [h1 _ e]
              by_cases e2 : j / 4 < t
              · rw [if_pos e2, if_pos (by omega)]
              · rw [if_neg e2, if_neg (by omega)]
          rw [this]
        rw [← key (fun i => if i = t then roomMark k0 t else if i < t then roomMark k0 i else S i) (fun i h => if_neg h) (if_pos rfl)]
        by_cases h3 : j = t * 4 + 3
        · subst h3; rw [if_pos rfl, roomCell_3, if_pos rfl]; simp only [roomMark]; rw [show k0 + 4 * (t : Int) + 1 + 1 + 1 = k0 + 4 * (t : Int) + 3 by omega]
        rw [if_neg h3]
        by_cases h2 : j = t * 4 + 2
        · subst h2; rw [if_pos rfl, roomCell_2, if_pos rfl]; simp [roomMark]; try omega
        rw [if_neg h2]
        by_cases h1 : j = t * 4 + 1
        · subst h1; rw [if_pos rfl, roomCell_1, if_pos rfl]; simp [roomMark]; try omega
        rw [if_neg h1]
        by_cases h0 : j = t * 4
        · subst h0; rw [if_pos rfl, roomCell_0, if_pos rfl]; simp [roomMark]; try omega
        rw [if_neg h0]
        have hne : j / 4 ≠ t := by omega
        unfold roomCell
        simp only [if_neg hne]
      case measure => simp [intOf]; omega
    · obtain rfl : t = n := by omega
      go_wp2
      go_ret
      refine ⟨rfl, ?_, hk⟩
      rw [roomList_congr (S := roomMark k0) (S' := fun i => if i < t then roomMark k0 i else S i) (fun i hi => (if_pos hi).symm)]
      exact hown
end Go.Proofs.YtlelckbeoclhbaaGreat

namespace Go.Proofs.YtlelckbeoclhbaaGreat
open Go.RowKit
def seatMark (k0 : Int) (t : Nat) : Seat := ⟨k0 + 2 * t, k0 + 2 * t + 1⟩
theorem markSeatS_own (ao : Option Addr) (n c base : Nat) (S : Nat → Seat) (k0 : Int) (w : World) (hn : n ≤ 2097152) (h0 : 0 ≤ k0) (h1 : k0 ≤ 1000000000000000) (ho : w.ownsRow base 126 2 (.slice ao n c) n (seatList S n)) :
    Calls Tryz.prog 79 #[.slice ao n c, .int .i64 k0] w fun e w' => e = .returned (.int .i64 (k0 + 2 * n)) ∧ w'.ownsRow base 126 2 (.slice ao n c) n (seatList (seatMark k0) n) ∧ Kept w w' (fun b => (Value.slice ao n c).ownBlock = some b) := by
  go_enter Tryz.func79, Tryz.ntmps79
  go_wp2
  go_loopw [1, 5] (fun q i wr => ∃ (t : Nat), t ≤ n ∧ i = .int .i64 t ∧ q = .int .i64 (k0 + 2 * t) ∧ wr.ownsRow base 126 2 (.slice ao n c) n ((List.range (n * 2)).map (seatCell (fun i => if i < t then seatMark k0 i else S i))) ∧ Kept w wr (fun b => (Value.slice ao n c).ownBlock = some b)) (fun _ i _ => n - (intOf i).toNat)
  case atStart => exact ⟨0, Nat.zero_le _, rfl, by simp, by simpa [seatList] using ho, Kept.refl _ _⟩
  case round =>
    obtain ⟨t, ht, rfl, rfl, hown, hk⟩ := hrel
    by_cases hlt : t < n
    · obtain ⟨g, rfl, hg1, hg2⟩ := own_addr hown (by omega)
      have hc0 := own_cell hown (t * 2) (by omega) rfl
      have hf0 := hown.frozenAt (t * 2)
      rw [seatCell_0] at hc0
      have hc1 := own_cell hown (t * 2 + 1) (by omega) rfl
      have hf1 := hown.frozenAt (t * 2 + 1)
      rw [seatCell_1] at hc1
      go_wp2
      go_roundw
      case rel =>
        refine ⟨t + 1, by omega, by go_num, by go_num, own_congr (own_store (own_store hown (t * 2) _) (t * 2 + 1) _) (fun j hj => ?_), ((hk.set (a := ⟨g, t * 2, none⟩) rfl _).set (a := ⟨g, t * 2 + 1, none⟩) rfl _)⟩
        have key : ∀ (S' : Nat → Seat), (∀ i, i ≠ t → S' i = (if i < t then seatMark k0 i else S i)) → (S' t = seatMark k0 t) → seatCell S' j = seatCell (fun i => if i < t + 1 then seatMark k0 i else S i) j := by
          intro S' h1 h2
          unfold seatCell
          have : S' (j / 2) = (if j / 2 < t + 1 then seatMark k0 (j / 2) else S (j / 2)) := by
            by_cases e : j / 2 = t
            · rw [e, h2, if_pos (by omega)]
            · rw [h1 _ e]
              by_cases e2 : j / 2 < t
              · rw [if_pos e2, if_pos (by omega)]
              · rw [if_neg e2, if_neg (by omega)]
          rw [this]
        rw [← key (fun i => if i = t then seatMark k0 t else if i < t then seatMark k0 i else S i) (fun i h => if_neg h) (if_pos rfl)]
        by_cases h1 : j = t * 2 + 1
        · subst h1; rw [if_pos rfl, seatCell_1, if_pos rfl]; simp [seatMark]; try omega
        rw [if_neg h1]
        by_cases h0 : j = t * 2
        · subst h0; rw [if_pos rfl, seatCell_0, if_pos rfl]; simp [seatMark]; try omega
        rw [if_neg h0]
        have hne : j / 2 ≠ t := by omega
        unfold seatCell
        simp only [if_neg hne]
      case measure => simp [intOf]; omega
    · obtain rfl : t = n := by omega
      go_wp2
      go_ret
      refine ⟨rfl, ?_, hk⟩
      rw [seatList_congr (S := seatMark k0) (S' := fun i => if i < t then seatMark k0 i else S i) (fun i hi => (if_pos hi).symm)]
      exact hown
end Go.Proofs.YtlelckbeoclhbaaGreat

namespace Go.Proofs.YtlelckbeoclhbaaGreat
open Go.RowKit
def OwnAny (w : World) (base t sz b n : Nat) (Q : List Value → Prop) : Prop := ∃ xs, Q xs ∧ w.ownsRow base t sz (.slice (some ⟨b, 0, none⟩) n n) n xs
theorem own_block {w : World} {base t sz b n : Nat} {xs : List Value} (h : w.ownsRow base t sz (.slice (some ⟨b, 0, none⟩) n n) n xs) : ∃ cur, w.heap[b]? = some (.cells cur t (0, 0)) ∧ cur.size = n * sz := by
  rcases h.2 with ⟨h0, _⟩ | ⟨g, cap, cur, hv, _, hg, _, _, hs, _⟩
  · cases h0
  · simp only [Value.slice.injEq, Option.some.injEq, Addr.mk.injEq] at hv
    obtain ⟨⟨rfl, _, _⟩, _, rfl⟩ := hv
    exact ⟨cur, hg, hs⟩
theorem OwnAny.lt {w : World} {base t sz b n : Nat} {Q : List Value → Prop} (h : OwnAny w base t sz b n Q) : b < w.heap.size := by
  obtain ⟨xs, _, ho⟩ := h
  obtain ⟨cur, hg, _⟩ := own_block ho
  exact blk_lt hg
theorem OwnAny.after {w w' : World} {base t sz b n t' sz' g n' : Nat} {Q Q' : List Value → Prop} (h : OwnAny w base t sz b n Q) (hg : OwnAny w base t' sz' g n' Q') (hk : Kept w w' (fun x => x = g)) (hz : 0 < sz) (he : t = t' → sz = sz') (hs : t = t' → n = n' → OwnAny w' base t sz g n Q) : OwnAny w' base t sz b n Q := by
  by_cases e : b = g
  · subst e
    obtain ⟨xs, hq, ho⟩ := h
    obtain ⟨ys, hq', ho'⟩ := hg
    obtain ⟨c1, g1, s1⟩ := own_block ho
    obtain ⟨c2, g2, s2⟩ := own_block ho'
    rw [g1] at g2
    simp only [Option.some.injEq, Obj.cells.injEq] at g2
    obtain ⟨rfl, rfl, _⟩ := g2
    obtain rfl := he rfl
    exact hs rfl (Nat.eq_of_mul_eq_mul_right hz (s1.symm.trans s2))
  · obtain ⟨xs, hq, ho⟩ := h
    exact ⟨xs, hq, hk.own ho (fun b' hb' e' => by simp only [Value.ownBlock, Option.some.injEq] at hb'; omega)⟩
theorem OwnAny.kept {w w' : World} {base t sz b n : Nat} {Q : List Value → Prop} {T : Nat → Prop} (h : OwnAny w base t sz b n Q) (hk : Kept w w' T) (hT : ¬ T b) : OwnAny w' base t sz b n Q := by
  obtain ⟨xs, hq, ho⟩ := h
  exact ⟨xs, hq, hk.own ho (fun b' hb' e' => by simp only [Value.ownBlock, Option.some.injEq] at hb'; subst hb'; exact hT e')⟩
end Go.Proofs.YtlelckbeoclhbaaGreat

namespace Go.Proofs.YtlelckbeoclhbaaGreat
open Go.RowKit
def StayRow (w : World) (base b n : Nat) : Prop := OwnAny w base 118 4 b n (fun xs => ∃ S, xs = stayList S n)
def RoomRow (w : World) (base b n : Nat) : Prop := OwnAny w base 120 4 b n (fun xs => ∃ S, xs = roomList S n)
def SeatRow (w : World) (base b n : Nat) : Prop := OwnAny w base 126 2 b n (fun xs => ∃ S, xs = seatList S n)
theorem markStay_row {w : World} {base b n : Nat} {k : Int} (hn : n ≤ 1048576) (h0 : 0 ≤ k) (h1 : k ≤ 1000000000000000) (h : StayRow w base b n) :
    Calls Tryz.prog 77 #[.slice (some ⟨b, 0, none⟩) n n, .int .i64 k] w fun e w' => e = .returned (.int .i64 (k + 4 * n)) ∧ StayRow w' base b n ∧ Kept w w' (fun x => x = b) := by
  obtain ⟨_, ⟨S, rfl⟩, ho⟩ := h
  exact (markStayS_own _ n n base S k w (by omega) h0 h1 ho).mono fun _ _ ⟨a, b, c⟩ => ⟨a, ⟨_, ⟨_, rfl⟩, b⟩, c.mono (fun x hx => by simp only [Value.ownBlock, Option.some.injEq] at hx; exact hx.symm)⟩
theorem markRoom_row {w : World} {base b n : Nat} {k : Int} (hn : n ≤ 1048576) (h0 : 0 ≤ k) (h1 : k ≤ 1000000000000000) (h : RoomRow w base b n) :
    Calls Tryz.prog 78 #[.slice (some ⟨b, 0, none⟩) n n, .int .i64 k] w fun e w' => e = .returned (.int .i64 (k + 4 * n)) ∧ RoomRow w' base b n ∧ Kept w w' (fun x => x = b) := by
  obtain ⟨_, ⟨S, rfl⟩, ho⟩ := h
  exact (markRoomS_own _ n n base S k w (by omega) h0 h1 ho).mono fun _ _ ⟨a, b, c⟩ => ⟨a, ⟨_, ⟨_, rfl⟩, b⟩, c.mono (fun x hx => by simp only [Value.ownBlock, Option.some.injEq] at hx; exact hx.symm)⟩
theorem markSeat_row {w : World} {base b n : Nat} {k : Int} (hn : n ≤ 1048576) (h0 : 0 ≤ k) (h1 : k ≤ 1000000000000000) (h : SeatRow w base b n) :
    Calls Tryz.prog 79 #[.slice (some ⟨b, 0, none⟩) n n, .int .i64 k] w fun e w' => e = .returned (.int .i64 (k + 2 * n)) ∧ SeatRow w' base b n ∧ Kept w w' (fun x => x = b) := by
  obtain ⟨_, ⟨S, rfl⟩, ho⟩ := h
  exact (markSeatS_own _ n n base S k w (by omega) h0 h1 ho).mono fun _ _ ⟨a, b, c⟩ => ⟨a, ⟨_, ⟨_, rfl⟩, b⟩, c.mono (fun x hx => by simp only [Value.ownBlock, Option.some.injEq] at hx; exact hx.symm)⟩
def LoadRows (w : World) (base N : Nat) (S : Nat → Load) (l1 l2 l3 : Nat → Nat) : Prop :=
  ∀ i, i < N → StayRow w base (l1 i) (S i).stn ∧ RoomRow w base (l2 i) (S i).ron ∧ SeatRow w base (l3 i) (S i).sen
theorem LoadRows.stay {w w' : World} {base N g n : Nat} {S : Nat → Load} {l1 l2 l3 : Nat → Nat} (h : LoadRows w base N S l1 l2 l3) (hg : StayRow w base g n) (hg' : StayRow w' base g n) (hk : Kept w w' (fun x => x = g)) : LoadRows w' base N S l1 l2 l3 := fun i hi =>
  ⟨(h i hi).1.after hg hk (by omega) (fun _ => rfl) (fun _ e => by rw [e]; exact hg'), (h i hi).2.1.after hg hk (by omega) (fun h => absurd h (by decide)) (fun h => absurd h (by decide)), (h i hi).2.2.after hg hk (by omega) (fun h => absurd h (by decide)) (fun h => absurd h (by decide))⟩
theorem LoadRows.room {w w' : World} {base N g n : Nat} {S : Nat → Load} {l1 l2 l3 : Nat → Nat} (h : LoadRows w base N S l1 l2 l3) (hg : RoomRow w base g n) (hg' : RoomRow w' base g n) (hk : Kept w w' (fun x => x = g)) : LoadRows w' base N S l1 l2 l3 := fun i hi =>
  ⟨(h i hi).1.after hg hk (by omega) (fun h => absurd h (by decide)) (fun h => absurd h (by decide)), (h i hi).2.1.after hg hk (by omega) (fun _ => rfl) (fun _ e => by rw [e]; exact hg'), (h i hi).2.2.after hg hk (by omega) (fun h => absurd h (by decide)) (fun h => absurd h (by decide))⟩
theorem LoadRows.seat {w w' : World} {base N g n : Nat} {S : Nat → Load} {l1 l2 l3 : Nat → Nat} (h : LoadRows w base N S l1 l2 l3) (hg : SeatRow w base g n) (hg' : SeatRow w' base g n) (hk : Kept w w' (fun x => x = g)) : LoadRows w' base N S l1 l2 l3 := fun i hi =>
  ⟨(h i hi).1.after hg hk (by omega) (fun h => absurd h (by decide)) (fun h => absurd h (by decide)), (h i hi).2.1.after hg hk (by omega) (fun h => absurd h (by decide)) (fun h => absurd h (by decide)), (h i hi).2.2.after hg hk (by omega) (fun _ => rfl) (fun _ e => by rw [e]; exact hg')⟩
theorem markLoadS_own (g N lo hi k0 : Nat) (S : Nat → Load) (C : Nat → List Value) (w : World) (hN : N ≤ 1048576) (hk0 : k0 ≤ 10000000000000) (hs : LoadsShort N S 1048576) (ho : LoadsTo w N lo hi g N S C) :
    Calls Tryz.prog 36 #[.slice (some ⟨g, 0, none⟩) N N, .int .i64 k0] w fun e w' => (∃ k : Nat, k ≤ 30000000000000 ∧ e = .returned (.int .i64 k)) ∧ Kept w w' (fun b => lo ≤ b ∧ b < hi) := by
  have key : ∀ i, i < N → ∃ p : Nat × Nat × Nat, (C i = [whole p.1 (S i).stn, whole p.2.1 (S i).ron, whole p.2.2 (S i).sen] ∧ (g < p.1 ∧ p.1 < hi) ∧ (g < p.2.1 ∧ p.2.1 < hi) ∧ (g < p.2.2 ∧ p.2.2 < hi)) ∧ StayRow w lo p.1 (S i).stn ∧ RoomRow w lo p.2.1 (S i).ron ∧ SeatRow w lo p.2.2 (S i).sen := by
    intro i hi'
    obtain ⟨a, b, c, e, ha, hb, hc⟩ := ho.each i hi'
    have sh := hs i hi'
    have gl := ho.glo
    unfold Load.Short at sh
    exact ⟨(a, b, c), ⟨e, ⟨Nat.lt_of_succ_le ha.1, ha.2.1⟩, ⟨Nat.lt_of_succ_le hb.1, hb.2.1⟩, ⟨Nat.lt_of_succ_le hc.1, hc.2.1⟩⟩, ⟨_, ⟨_, rfl⟩, own_of_row ha.2.2 (Nat.le_trans (Nat.le_succ_of_le gl) ha.1) (by unfold maxLen; omega)⟩, ⟨_, ⟨_, rfl⟩, own_of_row hb.2.2 (Nat.le_trans (Nat.le_succ_of_le gl) hb.1) (by unfold maxLen; omega)⟩, ⟨_, ⟨_, rfl⟩, own_of_row hc.2.2 (Nat.le_trans (Nat.le_succ_of_le gl) hc.1) (by unfold maxLen; omega)⟩⟩
  obtain ⟨p, hp⟩ := Go.Deep.choose_lt key
  have HP : Hid (∀ i, i < N → C i = [whole (p i).1 (S i).stn, whole (p i).2.1 (S i).ron, whole (p i).2.2 (S i).sen] ∧ (g < (p i).1 ∧ (p i).1 < hi) ∧ (g < (p i).2.1 ∧ (p i).2.1 < hi) ∧ (g < (p i).2.2 ∧ (p i).2.2 < hi)) := fun i hi' => (hp i hi').1
  have hrows : LoadRows w lo N S (fun i => (p i).1) (fun i => (p i).2.1) (fun i => (p i).2.2) := fun i hi' => (hp i hi').2
  have HO : Hid (LoadsTo w N lo hi g N S C) := ho
  have HS : Hid (LoadsShort N S 1048576) := hs
  have hgl := ho.glo
  clear hs ho key hp
  go_enter Tryz.func36, Tryz.ntmps36
  go_wp2
  go_loopw [1, 5] (fun q i wr => ∃ t k : Nat, t ≤ N ∧ i = .int .i64 t ∧ q = .int .i64 k ∧ k ≤ 10000000000000 + t * 10485760 ∧ LoadRows wr lo N S (fun i => (p i).1) (fun i => (p i).2.1) (fun i => (p i).2.2) ∧ Kept w wr (fun b => g < b ∧ b < hi)) (fun _ i _ => N - (intOf i).toNat)
  case atStart => exact ⟨0, k0, Nat.zero_le _, rfl, rfl, by omega, hrows, Kept.refl _ _⟩
  case round =>
    obtain ⟨t, k, ht, rfl, rfl, hkk, hR, hk⟩ := hrel
    by_cases hlt : t < N
    · obtain ⟨hC, b1, b2, b3⟩ := HP.out t hlt
      obtain ⟨n1, n2, n3⟩ := HS.out t hlt
      have rowk : ∀ w', Kept w w' (fun b => g < b ∧ b < hi) → ∀ j, j < 3 → w'.cell? ⟨g, t * 3 + j, none⟩ = some ([whole (p t).1 (S t).stn, whole (p t).2.1 (S t).ron, whole (p t).2.2 (S t).sen].getD j (.bool false)) := by
        intro w' hk' j hj
        have r := HO.out.row.of_block (hk'.block _ HO.out.row.lt (fun s => by omega))
        rw [r.cell (by omega), recCell_at 3 _ t j hj, upto_lt _ _ hlt, hC]
      have HRK : Hid (∀ w', Kept w w' (fun b => g < b ∧ b < hi) → ∀ j, j < 3 → w'.cell? ⟨g, t * 3 + j, none⟩ = some ([whole (p t).1 (S t).stn, whole (p t).2.1 (S t).ron, whole (p t).2.2 (S t).sen].getD j (.bool false))) := rowk
      clear rowk hC
      have hc0 : wr.cell? ⟨g, t * 3, none⟩ = some (.slice (some ⟨(p t).1, 0, none⟩) (S t).stn (S t).stn) := HRK.out wr hk 0 (by omega)
      go_wp2_with fail
      have r1 : StayRow wr lo (p t).1 (S t).stn := (hR t hlt).1
      refine (markStay_row n1 (by omega) (by omega) r1).mono ?_
      rintro e w2 ⟨rfl, o2, k2⟩
      have hR2 := hR.stay r1 o2 k2
      have hk2 := hk.trans (k2.mono (fun b e => by have e : b = (p t).1 := e; exact ⟨by omega, by omega⟩))
      clear hR hk k2 o2 r1 hc0
      have hc1 : w2.cell? ⟨g, t * 3 + 1, none⟩ = some (.slice (some ⟨(p t).2.1, 0, none⟩) (S t).ron (S t).ron) := HRK.out w2 hk2 1 (by omega)
      go_wp2_with fail
      have r1 : RoomRow w2 lo (p t).2.1 (S t).ron := (hR2 t hlt).2.1
      refine (markRoom_row n2 (by omega) (by omega) r1).mono ?_
      rintro e w3 ⟨rfl, o3, k3⟩
      have hR3 := hR2.room r1 o3 k3
      have hk3 := hk2.trans (k3.mono (fun b e => by have e : b = (p t).2.1 := e; exact ⟨by omega, by omega⟩))
      clear hR2 hk2 k3 o3 r1 hc1
      have hc2 : w3.cell? ⟨g, t * 3 + 2, none⟩ = some (.slice (some ⟨(p t).2.2, 0, none⟩) (S t).sen (S t).sen) := HRK.out w3 hk3 2 (by omega)
      go_wp2_with fail
      have r1 : SeatRow w3 lo (p t).2.2 (S t).sen := (hR3 t hlt).2.2
      refine (markSeat_row n3 (by omega) (by omega) r1).mono ?_
      rintro e w4 ⟨rfl, o4, k4⟩
      have hR4 := hR3.seat r1 o4 k4
      have hk4 := hk3.trans (k4.mono (fun b e => by have e : b = (p t).2.2 := e; exact ⟨by omega, by omega⟩))
      clear hR3 hk3 k4 o4 r1 hc2
      go_wp2
      go_roundw
      case rel => exact ⟨t + 1, k + 4 * (S t).stn + 4 * (S t).ron + 2 * (S t).sen, by omega, by go_num, by congr 1, by omega, hR4, hk4⟩
      case measure => simp [intOf]; omega
    · obtain rfl : t = N := by omega
      go_wp2
      go_ret
      exact ⟨⟨k, by omega, rfl⟩, hk.mono (fun b e => by have e : g < b ∧ b < hi := e; exact ⟨by omega, by omega⟩)⟩
end Go.Proofs.YtlelckbeoclhbaaGreat
