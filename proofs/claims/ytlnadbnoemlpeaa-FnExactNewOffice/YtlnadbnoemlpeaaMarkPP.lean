/-
  OWN TEXT: the laws' helpers mark and held over pairs that an answer owns, their marks told.
-/
import Derived.Test.YtlnadbnoemlpeaaKitOwn
import Derived.Test.YtlnadbnoemlpeaaMarkTx
import Derived.Deep.RegionHeld3
import Derived.Deep.LoopGhost
namespace Go.Proofs.Ytlnadbnoemlpeaa
open Go.RowKit

theorem markText_isZ (z : Int) (w : World) (h0 : 0 ≤ z) (hk : z ≤ 1000000000000000) :
    Calls Try.prog 23 #[.int .i64 z] w fun e w' => e = .returned (.string (markT z.toNat)) ∧ Below w.heap.size w w' := by
  obtain ⟨q, rfl⟩ := Int.eq_ofNat_of_zero_le h0
  exact markText_is q w (by omega)
/-- Pairs as they are marked from k on. -/
def markP (k : Nat) (p : Pairs) : Pairs := ⟨p.n, fun i => (k + 2 * i : Nat), fun i => (k + 2 * i + 1 : Nat)⟩
theorem markP_cell (k : Nat) (p : Pairs) (j : Nat) : pairCell (markP k p) j = .int .i64 ((k + j : Nat) : Int) := by
  unfold pairCell markP
  by_cases h : j % 2 = 0
  · rw [if_pos h]; show Value.int .i64 ((k + 2 * (j / 2) : Nat) : Int) = _; rw [show k + 2 * (j / 2) = k + j by omega]
  · rw [if_neg h]; show Value.int .i64 ((k + 2 * (j / 2) + 1 : Nat) : Int) = _; rw [show k + 2 * (j / 2) + 1 = k + j by omega]

set_option maxHeartbeats 800000 in
theorem markLaneP (ao : Option Addr) (c base k0 : Nat) (p : Pairs) (w : World) (hn : p.n ≤ 1048576) (h1 : k0 ≤ 100000000000000) (ho : w.ownsRow base 77 2 (.slice ao p.n c) p.n (pairRow p)) :
    Calls Try.prog 24 #[.slice ao p.n c, .int .i64 (k0 : Int)] w fun e w' => e = .returned (.int .i64 ((k0 + 2 * p.n : Nat) : Int)) ∧ w'.ownsRow base 77 2 (.slice ao p.n c) p.n (pairRow (markP k0 p)) ∧ Kept w w' (fun b => (Value.slice ao p.n c).ownBlock = some b) := by
  obtain ⟨n, hnd⟩ : ∃ n, n = p.n := ⟨_, rfl⟩
  rw [← hnd] at hn ho ⊢
  have HND : Hid (n = p.n) := hnd
  clear hnd
  go_enter Try.func24, Try.ntmps24
  go_wp2
  go_loopw [1, 5] (fun q i wr => ∃ (t k : Nat), t ≤ n ∧ i = .int .i64 t ∧ q = .int .i64 k ∧ k = k0 + 2 * t ∧ wr.ownsRow base 77 2 (.slice ao n c) n ((List.range (n * 2)).map (fun j => if j < t * 2 then .int .i64 ((k0 + j : Nat) : Int) else pairCell p j)) ∧ Kept w wr (fun b => (Value.slice ao n c).ownBlock = some b)) (fun _ i _ => n - (intOf i).toNat)
  case atStart =>
    refine ⟨0, k0, Nat.zero_le _, rfl, rfl, by omega, ?_, Kept.refl _ _⟩
    have : (List.range (n * 2)).map (fun j => if j < 0 * 2 then .int .i64 ((k0 + j : Nat) : Int) else pairCell p j) = pairRow p := by
      unfold pairRow; rw [← HND.out]; exact List.map_congr_left (fun j _ => if_neg (by omega))
    rw [this]; exact ho
  case round =>
    clear ho
    obtain ⟨t, k, ht, rfl, rfl, hkk, hown, hk⟩ := hrel
    have HKK : Hid (k = k0 + 2 * t) := hkk
    have kb : k ≤ 200000000000000 := by omega
    clear hkk
    by_cases hlt : t < n
    · obtain ⟨g, rfl, _, _⟩ := own_addr hown (by omega)
      obtain ⟨v0, hc0⟩ : ∃ v, wr.cell? ⟨g, t * 2, none⟩ = some v := ⟨_, own_cell hown (t * 2) (by omega) rfl⟩
      obtain ⟨v1, hc1⟩ : ∃ v, wr.cell? ⟨g, t * 2 + 1, none⟩ = some v := ⟨_, own_cell hown (t * 2 + 1) (by omega) rfl⟩
      have hf0 := hown.frozenAt (t * 2)
      have hf1 := hown.frozenAt (t * 2 + 1)
      have HOW : Hid _ := hown
      have HKP : Hid _ := hk
      clear hown hk
      go_wp2
      go_roundw
      case rel =>
        refine ⟨t + 1, k + 2, by omega, by go_num, by go_num, by have := HKK.out; omega, own_congr (own_store (own_store HOW.out (t * 2) _) (t * 2 + 1) _) (fun j hj => ?_), (HKP.out.set (a := ⟨g, t * 2, none⟩) rfl _).set (a := ⟨g, t * 2 + 1, none⟩) rfl _⟩
        have e0 := HKK.out
        by_cases h1 : j = t * 2 + 1
        · rw [if_pos h1, if_pos (by omega)]; congr 1; subst h1; subst e0; omega
        · rw [if_neg h1]
          by_cases h0 : j = t * 2
          · rw [if_pos h0, if_pos (by omega)]; congr 1; subst h0; subst e0; omega
          · rw [if_neg h0]
            by_cases h2 : j < t * 2
            · rw [if_pos h2, if_pos (by omega)]
            · rw [if_neg h2, if_neg (by omega)]
      case measure => simp [intOf]; omega
    · obtain rfl : t = n := by omega
      have HOW : Hid _ := hown
      clear hown
      go_wp2
      go_ret
      refine ⟨by rw [HKK.out]; rfl, ?_, hk⟩
      have : pairRow (markP k0 p) = (List.range (t * 2)).map (fun j => if j < t * 2 then .int .i64 ((k0 + j : Nat) : Int) else pairCell p j) := by
        unfold pairRow
        rw [show (markP k0 p).n = t from HND.out.symm]
        refine List.map_congr_left (fun j hj => ?_)
        have hj' : j < t * 2 := by simpa using hj
        rw [if_pos hj', markP_cell]
      rw [this]; exact HOW.out

set_option maxHeartbeats 800000 in
theorem heldLaneP (ao : Option Addr) (c k0 : Nat) (p : Pairs) (w : World) (hn : p.n ≤ 1048576) (h1 : k0 ≤ 100000000000000) (hz : PairsAt w ao (markP k0 p)) :
    Calls Try.prog 48 #[.slice ao p.n c, .int .i64 (k0 : Int)] w fun e w' => e = .returned (.int .i64 ((k0 + 2 * p.n : Nat) : Int)) ∧ w' = w := by
  obtain ⟨n, hnd⟩ : ∃ n, n = p.n := ⟨_, rfl⟩
  have HZ : Hid (∀ j, j < n → ∃ b off, ao = some ⟨b, off, none⟩ ∧ w.cell? ⟨b, off + j * 2, none⟩ = some (.int .i64 ((k0 + 2 * j : Nat) : Int)) ∧ w.cell? ⟨b, off + j * 2 + 1, none⟩ = some (.int .i64 ((k0 + 2 * j + 1 : Nat) : Int))) := by rw [hnd]; exact hz
  rw [← hnd] at hn ⊢
  clear hnd hz
  go_enter Try.func48, Try.ntmps48
  go_wp2
  go_loopw [1, 5] (fun q i wr => ∃ (t k : Nat), t ≤ n ∧ i = .int .i64 t ∧ q = .int .i64 k ∧ k = k0 + 2 * t ∧ wr = w) (fun _ i _ => n - (intOf i).toNat)
  case atStart => exact ⟨0, k0, Nat.zero_le _, rfl, rfl, by omega, rfl⟩
  case round =>
    obtain ⟨t, k, ht, rfl, rfl, hkk, rfl⟩ := hrel
    have kb : k ≤ 200000000000000 := by omega
    by_cases hlt : t < n
    · obtain ⟨b, off, rfl, c0, c1⟩ := HZ.out t hlt
      rw [← hkk] at c0 c1
      have HKK : Hid (k = k0 + 2 * t) := hkk
      have c1 : wr.cell? ⟨b, off + t * 2 + 1, none⟩ = some (.int .i64 ((k : Int) + 1)) := by rw [c1]; rfl
      have i1 : (0 : Int) ≤ (t : Int) := by omega
      have i2 : (t : Int) < (n : Int) := by omega
      clear hkk
      go_wp2
      go_roundw
      case rel => exact ⟨t + 1, k + 2, by omega, by go_num, by go_num, by have := HKK.out; omega, trivial⟩
      case measure => simp [intOf]; omega
    · obtain rfl : t = n := by omega
      have HKK : Hid (k = k0 + 2 * t) := hkk
      clear hkk
      go_wp2
      go_ret
      exact ⟨by rw [HKK.out]; rfl, rfl⟩

set_option maxHeartbeats 800000 in
theorem markCabinP (ao : Option Addr) (c base k0 : Nat) (p : Pairs) (w : World) (hn : p.n ≤ 1048576) (h1 : k0 ≤ 100000000000000) (ho : w.ownsRow base 80 2 (.slice ao p.n c) p.n (pairRow p)) :
    Calls Try.prog 25 #[.slice ao p.n c, .int .i64 (k0 : Int)] w fun e w' => e = .returned (.int .i64 ((k0 + 2 * p.n : Nat) : Int)) ∧ w'.ownsRow base 80 2 (.slice ao p.n c) p.n (pairRow (markP k0 p)) ∧ Kept w w' (fun b => (Value.slice ao p.n c).ownBlock = some b) := by
  obtain ⟨n, hnd⟩ : ∃ n, n = p.n := ⟨_, rfl⟩
  rw [← hnd] at hn ho ⊢
  have HND : Hid (n = p.n) := hnd
  clear hnd
  go_enter Try.func25, Try.ntmps25
  go_wp2
  go_loopw [1, 5] (fun q i wr => ∃ (t k : Nat), t ≤ n ∧ i = .int .i64 t ∧ q = .int .i64 k ∧ k = k0 + 2 * t ∧ wr.ownsRow base 80 2 (.slice ao n c) n ((List.range (n * 2)).map (fun j => if j < t * 2 then .int .i64 ((k0 + j : Nat) : Int) else pairCell p j)) ∧ Kept w wr (fun b => (Value.slice ao n c).ownBlock = some b)) (fun _ i _ => n - (intOf i).toNat)
  case atStart =>
    refine ⟨0, k0, Nat.zero_le _, rfl, rfl, by omega, ?_, Kept.refl _ _⟩
    have : (List.range (n * 2)).map (fun j => if j < 0 * 2 then .int .i64 ((k0 + j : Nat) : Int) else pairCell p j) = pairRow p := by
      unfold pairRow; rw [← HND.out]; exact List.map_congr_left (fun j _ => if_neg (by omega))
    rw [this]; exact ho
  case round =>
    clear ho
    obtain ⟨t, k, ht, rfl, rfl, hkk, hown, hk⟩ := hrel
    have HKK : Hid (k = k0 + 2 * t) := hkk
    have kb : k ≤ 200000000000000 := by omega
    clear hkk
    by_cases hlt : t < n
    · obtain ⟨g, rfl, _, _⟩ := own_addr hown (by omega)
      obtain ⟨v0, hc0⟩ : ∃ v, wr.cell? ⟨g, t * 2, none⟩ = some v := ⟨_, own_cell hown (t * 2) (by omega) rfl⟩
      obtain ⟨v1, hc1⟩ : ∃ v, wr.cell? ⟨g, t * 2 + 1, none⟩ = some v := ⟨_, own_cell hown (t * 2 + 1) (by omega) rfl⟩
      have hf0 := hown.frozenAt (t * 2)
      have hf1 := hown.frozenAt (t * 2 + 1)
      have HOW : Hid _ := hown
      have HKP : Hid _ := hk
      clear hown hk
      go_wp2
      go_roundw
      case rel =>
        refine ⟨t + 1, k + 2, by omega, by go_num, by go_num, by have := HKK.out; omega, own_congr (own_store (own_store HOW.out (t * 2) _) (t * 2 + 1) _) (fun j hj => ?_), (HKP.out.set (a := ⟨g, t * 2, none⟩) rfl _).set (a := ⟨g, t * 2 + 1, none⟩) rfl _⟩
        have e0 := HKK.out
        by_cases h1 : j = t * 2 + 1
        · rw [if_pos h1, if_pos (by omega)]; congr 1; subst h1; subst e0; omega
        · rw [if_neg h1]
          by_cases h0 : j = t * 2
          · rw [if_pos h0, if_pos (by omega)]; congr 1; subst h0; subst e0; omega
          · rw [if_neg h0]
            by_cases h2 : j < t * 2
            · rw [if_pos h2, if_pos (by omega)]
            · rw [if_neg h2, if_neg (by omega)]
      case measure => simp [intOf]; omega
    · obtain rfl : t = n := by omega
      have HOW : Hid _ := hown
      clear hown
      go_wp2
      go_ret
      refine ⟨by rw [HKK.out]; rfl, ?_, hk⟩
      have : pairRow (markP k0 p) = (List.range (t * 2)).map (fun j => if j < t * 2 then .int .i64 ((k0 + j : Nat) : Int) else pairCell p j) := by
        unfold pairRow
        rw [show (markP k0 p).n = t from HND.out.symm]
        refine List.map_congr_left (fun j hj => ?_)
        have hj' : j < t * 2 := by simpa using hj
        rw [if_pos hj', markP_cell]
      rw [this]; exact HOW.out

set_option maxHeartbeats 800000 in
theorem heldCabinP (ao : Option Addr) (c k0 : Nat) (p : Pairs) (w : World) (hn : p.n ≤ 1048576) (h1 : k0 ≤ 100000000000000) (hz : PairsAt w ao (markP k0 p)) :
    Calls Try.prog 49 #[.slice ao p.n c, .int .i64 (k0 : Int)] w fun e w' => e = .returned (.int .i64 ((k0 + 2 * p.n : Nat) : Int)) ∧ w' = w := by
  obtain ⟨n, hnd⟩ : ∃ n, n = p.n := ⟨_, rfl⟩
  have HZ : Hid (∀ j, j < n → ∃ b off, ao = some ⟨b, off, none⟩ ∧ w.cell? ⟨b, off + j * 2, none⟩ = some (.int .i64 ((k0 + 2 * j : Nat) : Int)) ∧ w.cell? ⟨b, off + j * 2 + 1, none⟩ = some (.int .i64 ((k0 + 2 * j + 1 : Nat) : Int))) := by rw [hnd]; exact hz
  rw [← hnd] at hn ⊢
  clear hnd hz
  go_enter Try.func49, Try.ntmps49
  go_wp2
  go_loopw [1, 5] (fun q i wr => ∃ (t k : Nat), t ≤ n ∧ i = .int .i64 t ∧ q = .int .i64 k ∧ k = k0 + 2 * t ∧ wr = w) (fun _ i _ => n - (intOf i).toNat)
  case atStart => exact ⟨0, k0, Nat.zero_le _, rfl, rfl, by omega, rfl⟩
  case round =>
    obtain ⟨t, k, ht, rfl, rfl, hkk, rfl⟩ := hrel
    have kb : k ≤ 200000000000000 := by omega
    by_cases hlt : t < n
    · obtain ⟨b, off, rfl, c0, c1⟩ := HZ.out t hlt
      rw [← hkk] at c0 c1
      have HKK : Hid (k = k0 + 2 * t) := hkk
      have c1 : wr.cell? ⟨b, off + t * 2 + 1, none⟩ = some (.int .i64 ((k : Int) + 1)) := by rw [c1]; rfl
      have i1 : (0 : Int) ≤ (t : Int) := by omega
      have i2 : (t : Int) < (n : Int) := by omega
      clear hkk
      go_wp2
      go_roundw
      case rel => exact ⟨t + 1, k + 2, by omega, by go_num, by go_num, by have := HKK.out; omega, trivial⟩
      case measure => simp [intOf]; omega
    · obtain rfl : t = n := by omega
      have HKK : Hid (k = k0 + 2 * t) := hkk
      clear hkk
      go_wp2
      go_ret
      exact ⟨by rw [HKK.out]; rfl, rfl⟩

end Go.Proofs.Ytlnadbnoemlpeaa
