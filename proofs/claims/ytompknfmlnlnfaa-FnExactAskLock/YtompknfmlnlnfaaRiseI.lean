/-
  OWN TEXT: the contract of impl.putRising over an own row.
-/
import Derived.Test.YtompknfmlnlnfaaPlainLv
import Derived.Test.YtompknfmlnlnfaaInsA
import Derived.BigQuiet
namespace Go.Proofs.Ytompknfmlnlnfaa
open Go.RowKit

theorem kept_of_grown {w w' : World} {v : Value} (hg : w.grownBy w' v.ownBlock) : Kept w w' (fun b => v.ownBlock = some b) :=
  ⟨hg.os, hg.tape, hg.output, hg.size, fun k hk hs => hg.block k hk (fun e => hs e.symm)⟩

set_option maxHeartbeats 1600000 in
set_option maxRecDepth 100000 in
theorem putRising_any (ao : Option Addr) (n c base : Nat) (h : List (Int × Bool)) (x : Int) (s : Bool) (w : World) (e1 : h.length = n) (hn : n ≤ 1048576) (ho : AsksIs w base (.slice ao n c) h) (hb : base ≤ w.heap.size) :
    Calls Try.prog 64 #[.slice ao n c, .agg #[.int .i64 x, .bool s]] w fun e w' => ∃ v, e = .returned v ∧ AsksIs w' base v (insP h (x, s)) ∧ Kept w w' (fun b => (Value.slice ao n c).ownBlock = some b) ∧ (∀ g, v.ownBlock = some g → (Value.slice ao n c).ownBlock = some g ∨ w.heap.size ≤ g) := by
  have E1 : Hid (h.length = n) := e1
  have HO : Hid (w.ownsRow base 65 2 (.slice ao n c) n (cellsA h)) := by
    have h1 := ho
    unfold AsksIs at h1
    rw [e1] at h1
    exact h1
  have hx : LineAt w ao (lineOf h) := by
    have h1 := HO.out
    rw [← askList_lineOf] at h1
    subst e1
    exact line_of_own h1
  have HX : Hid (LineAt w ao (lineOf h)) := hx
  clear hx ho e1
  have hb0 : Below w.heap.size w (w.alloc (.cells #[.int .i64 x, .bool s] 65)) := push (Below.refl _ _) _
  have bA := heap_alloc_new w (.cells #[.int .i64 x, .bool s] 65)
  go_enter Try.func64, Try.ntmps64
  go_wp2
  generalize w.alloc (.cells #[.int .i64 x, .bool s] 65) = X at hb0 bA ⊢
  go_loopw [5] (fun i wr => ∃ p : Nat, p ≤ n ∧ i = .int .i64 p ∧ (∀ j, j < p → (lineOf h).T j < x) ∧ Below X.heap.size X wr) (fun i _ => n - (intOf i).toNat)
  case atStart => exact ⟨0, Nat.zero_le _, rfl, fun j hj => by omega, Below.refl _ _⟩
  case round =>
    obtain ⟨p, hp, rfl, hle, hbel⟩ := hrel
    have HLE : Hid (∀ j, j < p → (lineOf h).T j < x) := hle
    clear hle
    have bP := blk_below bA hbel
    have y0 := blk_cell bP 0 _ rfl
    by_cases hlt : p < n
    · obtain ⟨b, off, rfl, h1, h2⟩ := HX.out p (show p < h.length by rw [E1.out]; omega)
      have hb1 := World.block_lt_of_cell? w _ h1
      have d1 := ((after hb0 hbel).cell (p := ⟨b, off + p * 2, none⟩) hb1).trans h1
      clear h1 h2
      have e0 : decide ((p : Int) < (n : Int)) = true := by simp; omega
      have e1 : (p : Int) < (n : Int) := by omega
      have e2 : (0 : Int) ≤ (p : Int) := by omega
      by_cases hT : (lineOf h).T p < x
      · have e3 : decide ((lineOf h).T p < x) = true := by simpa using hT
        go_wp2
        go_quiet (fail)
        go_wp2
        go_roundw
        case rel => exact ⟨p + 1, by omega, by go_num, fun j hj => by rcases Nat.lt_succ_iff_lt_or_eq.1 hj with h | h; exact HLE.out j h; rw [h]; exact hT, below_drewN hbel _⟩
        case measure => simp [intOf]; omega
      · have e3 : decide ((lineOf h).T p < x) = false := by simpa using hT
        go_wp2
        go_quiet (fail)
        have HSL : Hid (IsSlot (lineOf h) x p) := ⟨by show p ≤ h.length; rw [E1.out]; exact hp, HLE.out, fun _ => by omega⟩
        have hY : Below w.heap.size w (wr.drewN nq) := below_drewN (after hb0 hbel) _
        have bY : (wr.drewN nq).heap[w.heap.size]? = some (.cells #[.int .i64 x, .bool s] 65 (0, 0)) := blk_below bP (below_drewN (Below.refl _ _) _)
        clear y0 bP hbel
        generalize wr.drewN nq = Y at hY bY ⊢
        have z0 := blk_cell bY 0 _ rfl
        have z1 := blk_cell bY 1 _ rfl
        go_wp2_with fail
        refine (insertA_any _ n c p base Y.heap.size x s (cellsA h) _ hp hn (own_below (push hY _) HO.out) (cellsA_one h) (heap_alloc_new Y _) (fun e => by have := (World.ownsRow.lt HO.out _ e).2; have := hY.size; omega) (by have := hY.size; simp; omega)).mono ?_
        rintro e w3 ⟨v3, rfl, ho3, hg3, hat3⟩
        (try rw [Exit.noGoto_ret])
        go_wp2
        go_ret
        refine ⟨_, rfl, ?_, ?_, fun g hg => (hat3 g hg).imp_right (fun h => by have := hY.size; have : Y.heap.size ≤ g := Nat.le_trans (by simp) h; omega)⟩
        · obtain rfl := slot_one HSL.out (slotP_is h x)
          unfold AsksIs
          rw [insP_length, E1.out]
          unfold insP
          rw [cellsA_append]
          unfold insC at ho3
          rw [cellsA_take, cellsA_drop, List.append_assoc] at ho3
          exact ho3
        · exact (Kept.of_below (push hY _)).trans (kept_of_grown hg3)
    · have e0 : decide ((p : Int) < (n : Int)) = false := by simp; omega
      go_wp2
      go_quiet (fail)
      have HSL : Hid (IsSlot (lineOf h) x p) := ⟨by show p ≤ h.length; rw [E1.out]; exact hp, HLE.out, fun h1 => by have h2 : p < h.length := h1; rw [E1.out] at h2; omega⟩
      have hY : Below w.heap.size w (wr.drewN nq) := below_drewN (after hb0 hbel) _
      have bY : (wr.drewN nq).heap[w.heap.size]? = some (.cells #[.int .i64 x, .bool s] 65 (0, 0)) := blk_below bP (below_drewN (Below.refl _ _) _)
      clear y0 bP hbel
      generalize wr.drewN nq = Y at hY bY ⊢
      have z0 := blk_cell bY 0 _ rfl
      have z1 := blk_cell bY 1 _ rfl
      go_wp2_with fail
      refine (insertA_any _ n c p base Y.heap.size x s (cellsA h) _ hp hn (own_below (push hY _) HO.out) (cellsA_one h) (heap_alloc_new Y _) (fun e => by have := (World.ownsRow.lt HO.out _ e).2; have := hY.size; omega) (by have := hY.size; simp; omega)).mono ?_
      rintro e w3 ⟨v3, rfl, ho3, hg3, hat3⟩
      (try rw [Exit.noGoto_ret])
      go_wp2
      go_ret
      refine ⟨_, rfl, ?_, ?_, fun g hg => (hat3 g hg).imp_right (fun h => by have := hY.size; have : Y.heap.size ≤ g := Nat.le_trans (by simp) h; omega)⟩
      · obtain rfl := slot_one HSL.out (slotP_is h x)
        unfold AsksIs
        rw [insP_length, E1.out]
        unfold insP
        rw [cellsA_append]
        unfold insC at ho3
        rw [cellsA_take, cellsA_drop, List.append_assoc] at ho3
        exact ho3
      · exact (Kept.of_below (push hY _)).trans (kept_of_grown hg3)

end Go.Proofs.Ytompknfmlnlnfaa
