/-
  OWN TEXT: MarkX, MarkTx, MarkMRm.
-/
import Derived.Test.YtogbaoggebghdaaRows
import Derived.Deep.RegionHeld3
import Derived.Test.YtogbaoggebghdaaB00
import Derived.Test.YtogbaoggebghdaaB02
namespace Go.Proofs.Ytogbaoggebghdaa
open Go.RowKit

set_option maxHeartbeats 1600000 in
set_option maxRecDepth 100000 in
theorem markText_any (k : Nat) (w : World) (hk : k ≤ 1000000000000000) :
    Calls Try.prog 57 #[.int .i64 k] w fun e w' => (∃ s, e = .returned (.string s)) ∧ Below w.heap.size w w' := by
  by_cases h0 : k = 0
  · subst h0
    go_enter Try.func57, Try.ntmps57
    go_wp2
    go_ret
    exact ⟨⟨_, rfl⟩, Below.refl _ _⟩
  · have d0 : decide ((k : Int) ≤ 0) = false := decide_eq_false (by omega)
    go_enter Try.func57, Try.ntmps57
    go_wp2
    go_loopw [0, 3] (fun s0 s3 wr => ∃ (q : Nat) (s : ByteArray), s0 = .int .i64 q ∧ s3 = .string s ∧ s.size + q ≤ 1000000000000000 ∧ Below w.heap.size w wr) (fun s0 _ _ => (intOf s0).toNat)
    case atStart => exact ⟨k, ⟨#[]⟩, rfl, rfl, by show 0 + k ≤ _; omega, Below.refl _ _⟩
    case round =>
      obtain ⟨q, s, rfl, rfl, hs, hbel⟩ := hrel
      by_cases hq : q = 0
      · subst hq
        have hsum := run_string_add_sum (P := Try.prog) (w := wr) ⟨#[109]⟩ s (by show 1 + s.size ≤ _; omega)
        go_wp2
        go_ret
        exact ⟨⟨_, rfl⟩, hbel⟩
      · have dq : decide ((0 : Int) < (q : Int)) = true := decide_eq_true (by omega)
        have hconv : (convert 22 9 (.slice (some ⟨wr.heap.size, 0, none⟩) 1 1)).run Try.prog (wr.alloc (.cells #[.int .u8 (48 + (q : Int) % 10)] 5)) = .ok (.string (ByteArray.empty.push (UInt8.ofNat (48 + (q : Int) % 10).toNat))) (wr.alloc (.cells #[.int .u8 (48 + (q : Int) % 10)] 5)) := by
          rw [run_convert_bytes_string _ 22 9 5 _ 1 1 Try.underlying22 Try.underlying5 Try.underlying9]
          exact run_bytesToString _ _ 1 1 [48 + (q : Int) % 10] (run_loadCells_list _ _ [.int .u8 (48 + (q : Int) % 10)] (fun j v hj => by
            cases j with
            | zero => simp at hj; subst hj; simp [Addr.add, World.cell?_alloc_mark]
            | succ j => simp at hj))
        have hsum := run_string_add_sum (P := Try.prog) (w := wr.alloc (.cells #[.int .u8 (48 + (q : Int) % 10)] 5)) (ByteArray.empty.push (UInt8.ofNat (48 + (q : Int) % 10).toNat)) s (by show 1 + s.size ≤ _; omega)
        go_wp2
        refine ⟨⟨q / 10, _, by simp, rfl, ?_, push hbel _⟩, ?_⟩
        · have e : (ByteArray.empty.push (48 + UInt8.ofNat (q % 10)) ++ s).size = 1 + s.size := by
            rw [ByteArray.size_append]; rfl
          rw [e]; omega
        · simp only [intOf]; omega

theorem markText_int (k : Int) (w : World) (h0 : 0 ≤ k) (hk : k ≤ 1000000000000000) :
    Calls Try.prog 57 #[.int .i64 k] w fun e w' => (∃ s, e = .returned (.string s)) ∧ Below w.heap.size w w' := by
  obtain ⟨q, rfl⟩ := Int.eq_ofNat_of_zero_le h0
  exact markText_any q w (by omega)

end Go.Proofs.Ytogbaoggebghdaa

namespace Go.Proofs.Ytogbaoggebghdaa
open Go.RowKit

/-- The text that is left to be made of q ahead of s. -/
def markFin (q : Nat) (s : ByteArray) : ByteArray :=
  if _h : q = 0 then ⟨#[109]⟩ ++ s else markFin (q / 10) (ByteArray.empty.push (48 + UInt8.ofNat (q % 10)) ++ s)
termination_by q
decreasing_by omega
theorem markFin_0 (s : ByteArray) : markFin 0 s = ⟨#[109]⟩ ++ s := by rw [markFin]; simp
theorem markFin_s {q : Nat} (h : q ≠ 0) (s : ByteArray) : markFin q s = markFin (q / 10) (ByteArray.empty.push (48 + UInt8.ofNat (q % 10)) ++ s) := by rw [markFin]; simp [h]
def markT (k : Nat) : ByteArray := if k = 0 then ⟨#[109, 48]⟩ else markFin k ⟨#[]⟩

set_option maxHeartbeats 1600000 in
set_option maxRecDepth 100000 in
theorem markText_is (k : Nat) (w : World) (hk : k ≤ 1000000000000000) :
    Calls Try.prog 57 #[.int .i64 k] w fun e w' => e = .returned (.string (markT k)) ∧ Below w.heap.size w w' := by
  by_cases h0 : k = 0
  · subst h0
    go_enter Try.func57, Try.ntmps57
    go_wp2
    go_ret
    exact ⟨rfl, Below.refl _ _⟩
  · have d0 : decide ((k : Int) ≤ 0) = false := decide_eq_false (by omega)
    have HK : Hid (markT k = markFin k ⟨#[]⟩) := by show markT k = _; unfold markT; rw [if_neg h0]
    go_enter Try.func57, Try.ntmps57
    go_wp2
    go_loopw [0, 3] (fun s0 s3 wr => ∃ (q : Nat) (s : ByteArray), s0 = .int .i64 q ∧ s3 = .string s ∧ s.size + q ≤ 1000000000000000 ∧ Hid (markFin q s = markT k) ∧ Below w.heap.size w wr) (fun s0 _ _ => (intOf s0).toNat)
    case atStart => exact ⟨k, ⟨#[]⟩, rfl, rfl, by show 0 + k ≤ _; omega, HK.out.symm, Below.refl _ _⟩
    case round =>
      obtain ⟨q, s, rfl, rfl, hs, hfin, hbel⟩ := hrel
      by_cases hq : q = 0
      · subst hq
        have hsum := run_string_add_sum (P := Try.prog) (w := wr) ⟨#[109]⟩ s (by show 1 + s.size ≤ _; omega)
        go_wp2
        go_ret
        refine ⟨?_, hbel⟩
        rw [← hfin.out, markFin_0]
        rfl
      · have dq : decide ((0 : Int) < (q : Int)) = true := decide_eq_true (by omega)
        have hconv : (convert 22 9 (.slice (some ⟨wr.heap.size, 0, none⟩) 1 1)).run Try.prog (wr.alloc (.cells #[.int .u8 (48 + (q : Int) % 10)] 5)) = .ok (.string (ByteArray.empty.push (UInt8.ofNat (48 + (q : Int) % 10).toNat))) (wr.alloc (.cells #[.int .u8 (48 + (q : Int) % 10)] 5)) := by
          rw [run_convert_bytes_string _ 22 9 5 _ 1 1 Try.underlying22 Try.underlying5 Try.underlying9]
          exact run_bytesToString _ _ 1 1 [48 + (q : Int) % 10] (run_loadCells_list _ _ [.int .u8 (48 + (q : Int) % 10)] (fun j v hj => by
            cases j with
            | zero => simp at hj; subst hj; simp [Addr.add, World.cell?_alloc_mark]
            | succ j => simp at hj))
        have hsum := run_string_add_sum (P := Try.prog) (w := wr.alloc (.cells #[.int .u8 (48 + (q : Int) % 10)] 5)) (ByteArray.empty.push (UInt8.ofNat (48 + (q : Int) % 10).toNat)) s (by show 1 + s.size ≤ _; omega)
        go_wp2
        refine ⟨⟨q / 10, _, by simp, rfl, ?_, ?_, push hbel _⟩, ?_⟩
        · have e : (ByteArray.empty.push (48 + UInt8.ofNat (q % 10)) ++ s).size = 1 + s.size := by
            rw [ByteArray.size_append]; rfl
          rw [e]; omega
        · show markFin (q / 10) _ = markT k
          rw [← hfin.out, markFin_s hq]
        · simp only [intOf]; omega

end Go.Proofs.Ytogbaoggebghdaa

namespace Go.Proofs.Ytogbaoggebghdaa
open Go.RowKit

theorem markText_isI (z : Int) (w : World) (h0 : 0 ≤ z) (hk : z ≤ 1000000000000000) :
    Calls Try.prog 57 #[.int .i64 z] w fun e w' => e = .returned (.string (markT z.toNat)) ∧ Below w.heap.size w w' := by
  obtain ⟨q, rfl⟩ := Int.eq_ofNat_of_zero_le h0
  exact markText_is q w (by omega)
/-- What a marked row holds. -/
def rowMark (k0 : Nat) (i : Nat) : MRow := ⟨(k0 : Int) + 5 * i, markT (k0 + 5 * i + 1), (k0 : Int) + 5 * i + 2, (k0 : Int) + 5 * i + 3, (k0 : Int) + 5 * i + 4⟩

set_option maxHeartbeats 1600000 in
set_option maxRecDepth 100000 in
theorem markRowS_own (ao : Option Addr) (n c base k0 : Nat) (S : Nat → MRow) (w : World) (hn : n ≤ 2097152) (h1 : k0 ≤ 100000000000000) (ho : w.ownsRow base 84 5 (.slice ao n c) n (rowList S n)) :
    Calls Try.prog 58 #[.slice ao n c, .int .i64 k0] w fun e w' => e = .returned (.int .i64 ((k0 + 5 * n : Nat) : Int)) ∧ w'.ownsRow base 84 5 (.slice ao n c) n (rowList (rowMark k0) n) ∧ Kept w w' (fun b => (Value.slice ao n c).ownBlock = some b) := by
  go_enter Try.func58, Try.ntmps58
  go_wp2
  go_loopw [1, 5] (fun q i wr => ∃ (t k : Nat), t ≤ n ∧ i = .int .i64 t ∧ q = .int .i64 k ∧ k = k0 + 5 * t ∧ wr.ownsRow base 84 5 (.slice ao n c) n ((List.range (n * 5)).map (rowCell (fun i => if i < t then rowMark k0 i else S i))) ∧ Kept w wr (fun b => (Value.slice ao n c).ownBlock = some b)) (fun _ i _ => n - (intOf i).toNat)
  case atStart => exact ⟨0, k0, Nat.zero_le _, rfl, rfl, by omega, by simpa [rowList] using ho, Kept.refl _ _⟩
  case round =>
    obtain ⟨t, k, ht, rfl, rfl, hkk, hown, hk⟩ := hrel
    have HKK : Hid (k = k0 + 5 * t) := hkk
    have kb : k ≤ 200000000000000 := by omega
    clear hkk
    by_cases hlt : t < n
    · obtain ⟨g, rfl, hg1, hg2⟩ := own_addr hown (by omega)
      obtain ⟨v0, hc0⟩ : ∃ v, wr.cell? ⟨g, t * 5, none⟩ = some v := ⟨_, own_cell hown (t * 5) (by omega) rfl⟩
      have hf0 := hown.frozenAt (t * 5)
      go_wp2_with fail
      refine (markText_isI _ _ (by omega) (by omega)).mono ?_
      rintro e w2 ⟨rfl, hb2⟩
      have hown2 := own_below hb2 (own_store hown (t * 5) (.int .i64 k))
      have hk2 := (hk.set (a := ⟨g, t * 5, none⟩) rfl (.int .i64 k)).trans (Kept.of_below hb2)
      clear hc0 hf0 hb2 hown hk
      obtain ⟨v1, hc1⟩ : ∃ v, w2.cell? ⟨g, t * 5 + 1, none⟩ = some v := ⟨_, own_cell hown2 (t * 5 + 1) (by omega) rfl⟩
      have hf1 := hown2.frozenAt (t * 5 + 1)
      obtain ⟨v2, hc2⟩ : ∃ v, w2.cell? ⟨g, t * 5 + 2, none⟩ = some v := ⟨_, own_cell hown2 (t * 5 + 2) (by omega) rfl⟩
      have hf2 := hown2.frozenAt (t * 5 + 2)
      obtain ⟨v3, hc3⟩ : ∃ v, w2.cell? ⟨g, t * 5 + 3, none⟩ = some v := ⟨_, own_cell hown2 (t * 5 + 3) (by omega) rfl⟩
      have hf3 := hown2.frozenAt (t * 5 + 3)
      obtain ⟨v4, hc4⟩ : ∃ v, w2.cell? ⟨g, t * 5 + 4, none⟩ = some v := ⟨_, own_cell hown2 (t * 5 + 4) (by omega) rfl⟩
      have hf4 := hown2.frozenAt (t * 5 + 4)
      have htx : ((k : Int) + 1).toNat = k0 + 5 * t + 1 := by have := HKK.out; omega
      rw [htx]
      clear htx
      go_wp2
      go_roundw
      case rel =>
        refine ⟨t + 1, k + 5, by omega, by go_num, by go_num, by have := HKK.out; omega, own_congr (own_store (own_store (own_store (own_store hown2 (t * 5 + 1) _) (t * 5 + 2) _) (t * 5 + 3) _) (t * 5 + 4) _) (fun j hj => ?_), ((((hk2.set (a := ⟨g, t * 5 + 1, none⟩) rfl _).set (a := ⟨g, t * 5 + 2, none⟩) rfl _).set (a := ⟨g, t * 5 + 3, none⟩) rfl _).set (a := ⟨g, t * 5 + 4, none⟩) rfl _)⟩
        have e0 : (k : Int) = (k0 : Int) + 5 * t := by have := HKK.out; omega
        have key : ∀ (S' : Nat → MRow), (∀ i, i ≠ t → S' i = (if i < t then rowMark k0 i else S i)) → (S' t = rowMark k0 t) → rowCell S' j = rowCell (fun i => if i < t + 1 then rowMark k0 i else S i) j := by
          intro S' h1 h2
          unfold rowCell
          have : S' (j / 5) = (if j / 5 < t + 1 then rowMark k0 (j / 5) else S (j / 5)) := by
            by_cases e : j / 5 = t
            · rw [e, h2, if_pos (by omega)]
            · rw [h1 _ e]
              by_cases e2 : j / 5 < t
              · rw [if_pos e2, if_pos (by omega)]
              · rw [if_neg e2, if_neg (by omega)]
          rw [this]
        rw [← key (fun i => if i = t then rowMark k0 t else if i < t then rowMark k0 i else S i) (fun i h => if_neg h) (if_pos rfl)]
        by_cases h4 : j = t * 5 + 4
        · subst h4; rw [if_pos rfl, rowCell_4, if_pos rfl]; simp [rowMark]; try omega
        rw [if_neg h4]
        by_cases h3 : j = t * 5 + 3
        · subst h3; rw [if_pos rfl, rowCell_3, if_pos rfl]; simp [rowMark]; try omega
        rw [if_neg h3]
        by_cases h2 : j = t * 5 + 2
        · subst h2; rw [if_pos rfl, rowCell_2, if_pos rfl]; simp [rowMark]; try omega
        rw [if_neg h2]
        by_cases h1 : j = t * 5 + 1
        · subst h1; rw [if_pos rfl, rowCell_1, if_pos rfl]; simp [rowMark]; try omega
        rw [if_neg h1]
        by_cases h0 : j = t * 5
        · subst h0; rw [if_pos rfl, rowCell_0, if_pos rfl]; simp [rowMark]; try omega
        rw [if_neg h0]
        have hne : j / 5 ≠ t := by omega
        unfold rowCell
        simp only [if_neg hne]
      case measure => simp [intOf]; omega
    · obtain rfl : t = n := by omega
      go_wp2
      go_ret
      refine ⟨by rw [HKK.out]; rfl, ?_, hk⟩
      rw [rowList_congr (S := rowMark k0) (S' := fun i => if i < t then rowMark k0 i else S i) (fun i hi => (if_pos hi).symm)]
      exact hown

end Go.Proofs.Ytogbaoggebghdaa
