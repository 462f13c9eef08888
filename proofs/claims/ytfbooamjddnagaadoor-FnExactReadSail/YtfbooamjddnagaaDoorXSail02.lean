/-
  OWN TEXT: SpecCt, KitBx, PartyR, LegsR.
-/
import Derived.Deep.LoopGhost
import Derived.Deep.DeepCutAuto
import Derived.BigQuiet
import Derived.Test.YtfbooamjddnagaaDoorXSail01
import Derived.Test.YtfbooamjddnagaaDoorB00
namespace Go.Proofs.YtfbooamjddnagaaDoor
open Go.RowKit

theorem cut_found {p : UInt8} {s : ByteArray} {k : Nat} (hk : k < s.size) (he : s[k]'hk = p) (hn : ∀ j, j < k → ∀ h : j < s.size, s[j]'h ≠ p) : cutA p s = s.extract 0 k ∧ cutB p s = s.extract (k + 1) s.size ∧ cutF p s = true := by
  have hl : s.data.toList.length = s.size := Array.length_toList
  refine cut_one (cut_is p s) ⟨?_, .inl ⟨rfl, ?_⟩⟩
  · rw [sub_list]
    intro hm
    obtain ⟨i, hi⟩ := List.mem_iff_getElem?.1 hm
    rw [List.getElem?_take] at hi
    split at hi
    · rename_i hlt2
      simp at hlt2
      rw [List.drop_zero, get_at (by omega)] at hi
      exact hn i hlt2 (by omega) (by simpa using hi)
    · cases hi
  · rw [sub_list, sub_list, Nat.sub_zero, List.drop_zero, List.take_of_length_le (l := List.drop (k + 1) s.data.toList) (by rw [List.length_drop]; omega)]
    have h1 := get_at hk
    have h3 : s.data.toList.drop k = p :: s.data.toList.drop (k + 1) := by
      rw [List.drop_eq_getElem_cons (by omega)]
      rw [List.getElem?_eq_getElem (by omega)] at h1
      congr 1
    rw [← h3, List.take_append_drop]
theorem cut_none {p : UInt8} {s : ByteArray} (hn : ∀ j, j < s.size → ∀ h : j < s.size, s[j]'h ≠ p) : cutA p s = s ∧ cutB p s = ⟨#[]⟩ ∧ cutF p s = false := by
  have hl : s.data.toList.length = s.size := Array.length_toList
  refine cut_one (cut_is p s) ⟨?_, .inr ⟨rfl, rfl, rfl⟩⟩
  intro hm
  obtain ⟨i, hi⟩ := List.mem_iff_getElem?.1 hm
  rcases Nat.lt_or_ge i s.size with h | h
  · rw [get_at h] at hi
    exact hn i h h (by simpa using hi)
  · rw [List.getElem?_eq_none (by omega)] at hi
    cases hi

set_option maxHeartbeats 800000 in
set_option maxRecDepth 100000 in
theorem l11Cut_any (s : ByteArray) (p : UInt8) (w : World) (hs : s.size ≤ 1000000000000) :
    Calls Tryd.prog 80 #[.string s, .int .u8 p.toNat] w fun e w' => e = .returned (.tuple #[.string (cutA p s), .string (cutB p s), .bool (cutF p s)]) ∧ Below w.heap.size w w' := by
  go_enter Tryd.func80, Tryd.ntmps80
  go_wp2
  go_loop [7] (fun i => ∃ k : Nat, k ≤ s.size ∧ i = .int .i64 k ∧ Hid (∀ j, j < k → ∀ h : j < s.size, s[j]'h ≠ p)) (fun i => s.size - (intOf i).toNat)
  case atStart => exact ⟨0, Nat.zero_le _, rfl, fun j hj => by omega⟩
  case round =>
    obtain ⟨k, hk, rfl, HN⟩ := hrel
    by_cases hlt : k < s.size
    · by_cases he : s[k]'hlt = p
      · have HE : Hid (cutA p s = s.extract 0 k ∧ cutB p s = s.extract (k + 1) s.size ∧ cutF p s = true) := cut_found hlt he HN.out
        have e1 : ((s[k]'hlt).toNat : Int) = (p.toNat : Int) := by rw [he]
        have e2 : (s[k]'hlt).toNat = p.toNat := by rw [he]
        have ep : ((p.toNat : Int) == (p.toNat : Int)) = true := by simp
        have i1 : (0 : Int) ≤ (k : Int) := by omega
        have i2 : (k : Int) ≤ (s.size : Int) := by omega
        have i3 : (k : Int) + 1 ≤ (s.size : Int) := by omega
        have i4 : (0 : Int) ≤ (k : Int) + 1 := by omega
        have hw : IntKind.i64.wrap ((k : Int) + 1) = (k : Int) + 1 := by rw [IntKind.wrap_i64]; omega
        have ht : ((k : Int) + 1).toNat = k + 1 := by omega
        clear he HN
        go_upto_region 5 with fail
        go_quiet (fail)
        go_wp2
        exact bodyPost_ret (v := .tuple #[.string (s.extract 0 k), .string (s.extract (k + 1) s.size), .bool true]) (by simp [results, Tryd.results80, go_sem]) rfl ⟨by rw [HE.out.1, HE.out.2.1, HE.out.2.2], below_drewN (Below.refl _ _) _⟩
      · have HN1 : Hid (∀ j, j < k + 1 → ∀ h : j < s.size, s[j]'h ≠ p) := fun j hj h => by
          rcases Nat.lt_or_ge j k with h2 | h2
          · exact HN.out j h2 h
          · obtain rfl : j = k := by omega
            exact he
        have hne : (s[k]'hlt).toNat ≠ p.toNat := fun e => he (UInt8.toNat_inj.1 e)
        have hne' : (((s[k]'hlt).toNat : Int) == (p.toNat : Int)) = false := by rw [beq_eq_false_iff_ne]; omega
        clear he HN
        go_wp2
        go_round
        case rel => exact ⟨k + 1, by omega, by go_num, HN1⟩
        case measure => simp [intOf]; omega
    · obtain rfl : k = s.size := by omega
      have HE : Hid (cutA p s = s ∧ cutB p s = ⟨#[]⟩ ∧ cutF p s = false) := cut_none HN.out
      clear HN
      go_wp2
      exact bodyPost_ret (v := .tuple #[.string s, .string ⟨#[]⟩, .bool false]) (by simp [results, Tryd.results80, go_sem]) rfl ⟨by rw [HE.out.1, HE.out.2.1, HE.out.2.2], Below.refl _ _⟩

end Go.Proofs.YtfbooamjddnagaaDoor

namespace Go.Proofs.YtfbooamjddnagaaDoor
open Go.RowKit

theorem box_6 {w : World} {b t : Nat} {r0 r1 r2 r3 r4 r5 : Value} (h : w.heap[b]? = some (.cells #[r0, r1, r2, r3, r4, r5] t (0, 0))) (v0 v1 v2 v3 v4 v5 : Value) :
    (World.setCell (World.setCell (World.setCell (World.setCell (World.setCell (World.setCell w ⟨b, 0, none⟩ v0) ⟨b, 1, none⟩ v1) ⟨b, 2, none⟩ v2) ⟨b, 3, none⟩ v3) ⟨b, 4, none⟩ v4) ⟨b, 5, none⟩ v5).heap[b]? = some (.cells #[v0, v1, v2, v3, v4, v5] t (0, 0)) := by
  have h0 : (World.setCell w ⟨b, 0, none⟩ v0).heap[b]? = some (.cells #[v0, r1, r2, r3, r4, r5] t (0, 0)) := by simpa using blk_set h 0 v0
  have h1 : (World.setCell (World.setCell w ⟨b, 0, none⟩ v0) ⟨b, 1, none⟩ v1).heap[b]? = some (.cells #[v0, v1, r2, r3, r4, r5] t (0, 0)) := by simpa using blk_set h0 1 v1
  have h2 : (World.setCell (World.setCell (World.setCell w ⟨b, 0, none⟩ v0) ⟨b, 1, none⟩ v1) ⟨b, 2, none⟩ v2).heap[b]? = some (.cells #[v0, v1, v2, r3, r4, r5] t (0, 0)) := by simpa using blk_set h1 2 v2
  have h3 : (World.setCell (World.setCell (World.setCell (World.setCell w ⟨b, 0, none⟩ v0) ⟨b, 1, none⟩ v1) ⟨b, 2, none⟩ v2) ⟨b, 3, none⟩ v3).heap[b]? = some (.cells #[v0, v1, v2, v3, r4, r5] t (0, 0)) := by simpa using blk_set h2 3 v3
  have h4 : (World.setCell (World.setCell (World.setCell (World.setCell (World.setCell w ⟨b, 0, none⟩ v0) ⟨b, 1, none⟩ v1) ⟨b, 2, none⟩ v2) ⟨b, 3, none⟩ v3) ⟨b, 4, none⟩ v4).heap[b]? = some (.cells #[v0, v1, v2, v3, v4, r5] t (0, 0)) := by simpa using blk_set h3 4 v4
  have h5 : (World.setCell (World.setCell (World.setCell (World.setCell (World.setCell (World.setCell w ⟨b, 0, none⟩ v0) ⟨b, 1, none⟩ v1) ⟨b, 2, none⟩ v2) ⟨b, 3, none⟩ v3) ⟨b, 4, none⟩ v4) ⟨b, 5, none⟩ v5).heap[b]? = some (.cells #[v0, v1, v2, v3, v4, v5] t (0, 0)) := by simpa using blk_set h4 5 v5
  exact h5
theorem keep_6 (w : World) (b : Nat) (v0 v1 v2 v3 v4 v5 : Value) : Kept w (World.setCell (World.setCell (World.setCell (World.setCell (World.setCell (World.setCell w ⟨b, 0, none⟩ v0) ⟨b, 1, none⟩ v1) ⟨b, 2, none⟩ v2) ⟨b, 3, none⟩ v3) ⟨b, 4, none⟩ v4) ⟨b, 5, none⟩ v5) (fun k => k = b) := (((((((Kept.refl w (fun k => k = b)).set (a := ⟨b, 0, none⟩) rfl v0).set (a := ⟨b, 1, none⟩) rfl v1).set (a := ⟨b, 2, none⟩) rfl v2).set (a := ⟨b, 3, none⟩) rfl v3).set (a := ⟨b, 4, none⟩) rfl v4).set (a := ⟨b, 5, none⟩) rfl v5)
theorem box_8 {w : World} {b t : Nat} {r0 r1 r2 r3 r4 r5 r6 r7 : Value} (h : w.heap[b]? = some (.cells #[r0, r1, r2, r3, r4, r5, r6, r7] t (0, 0))) (v0 v1 v2 v3 v4 v5 v6 v7 : Value) :
    (World.setCell (World.setCell (World.setCell (World.setCell (World.setCell (World.setCell (World.setCell (World.setCell w ⟨b, 0, none⟩ v0) ⟨b, 1, none⟩ v1) ⟨b, 2, none⟩ v2) ⟨b, 3, none⟩ v3) ⟨b, 4, none⟩ v4) ⟨b, 5, none⟩ v5) ⟨b, 6, none⟩ v6) ⟨b, 7, none⟩ v7).heap[b]? = some (.cells #[v0, v1, v2, v3, v4, v5, v6, v7] t (0, 0)) := by
  have h0 : (World.setCell w ⟨b, 0, none⟩ v0).heap[b]? = some (.cells #[v0, r1, r2, r3, r4, r5, r6, r7] t (0, 0)) := by simpa using blk_set h 0 v0
  have h1 : (World.setCell (World.setCell w ⟨b, 0, none⟩ v0) ⟨b, 1, none⟩ v1).heap[b]? = some (.cells #[v0, v1, r2, r3, r4, r5, r6, r7] t (0, 0)) := by simpa using blk_set h0 1 v1
  have h2 : (World.setCell (World.setCell (World.setCell w ⟨b, 0, none⟩ v0) ⟨b, 1, none⟩ v1) ⟨b, 2, none⟩ v2).heap[b]? = some (.cells #[v0, v1, v2, r3, r4, r5, r6, r7] t (0, 0)) := by simpa using blk_set h1 2 v2
  have h3 : (World.setCell (World.setCell (World.setCell (World.setCell w ⟨b, 0, none⟩ v0) ⟨b, 1, none⟩ v1) ⟨b, 2, none⟩ v2) ⟨b, 3, none⟩ v3).heap[b]? = some (.cells #[v0, v1, v2, v3, r4, r5, r6, r7] t (0, 0)) := by simpa using blk_set h2 3 v3
  have h4 : (World.setCell (World.setCell (World.setCell (World.setCell (World.setCell w ⟨b, 0, none⟩ v0) ⟨b, 1, none⟩ v1) ⟨b, 2, none⟩ v2) ⟨b, 3, none⟩ v3) ⟨b, 4, none⟩ v4).heap[b]? = some (.cells #[v0, v1, v2, v3, v4, r5, r6, r7] t (0, 0)) := by simpa using blk_set h3 4 v4
  have h5 : (World.setCell (World.setCell (World.setCell (World.setCell (World.setCell (World.setCell w ⟨b, 0, none⟩ v0) ⟨b, 1, none⟩ v1) ⟨b, 2, none⟩ v2) ⟨b, 3, none⟩ v3) ⟨b, 4, none⟩ v4) ⟨b, 5, none⟩ v5).heap[b]? = some (.cells #[v0, v1, v2, v3, v4, v5, r6, r7] t (0, 0)) := by simpa using blk_set h4 5 v5
  have h6 : (World.setCell (World.setCell (World.setCell (World.setCell (World.setCell (World.setCell (World.setCell w ⟨b, 0, none⟩ v0) ⟨b, 1, none⟩ v1) ⟨b, 2, none⟩ v2) ⟨b, 3, none⟩ v3) ⟨b, 4, none⟩ v4) ⟨b, 5, none⟩ v5) ⟨b, 6, none⟩ v6).heap[b]? = some (.cells #[v0, v1, v2, v3, v4, v5, v6, r7] t (0, 0)) := by simpa using blk_set h5 6 v6
  have h7 : (World.setCell (World.setCell (World.setCell (World.setCell (World.setCell (World.setCell (World.setCell (World.setCell w ⟨b, 0, none⟩ v0) ⟨b, 1, none⟩ v1) ⟨b, 2, none⟩ v2) ⟨b, 3, none⟩ v3) ⟨b, 4, none⟩ v4) ⟨b, 5, none⟩ v5) ⟨b, 6, none⟩ v6) ⟨b, 7, none⟩ v7).heap[b]? = some (.cells #[v0, v1, v2, v3, v4, v5, v6, v7] t (0, 0)) := by simpa using blk_set h6 7 v7
  exact h7
theorem keep_8 (w : World) (b : Nat) (v0 v1 v2 v3 v4 v5 v6 v7 : Value) : Kept w (World.setCell (World.setCell (World.setCell (World.setCell (World.setCell (World.setCell (World.setCell (World.setCell w ⟨b, 0, none⟩ v0) ⟨b, 1, none⟩ v1) ⟨b, 2, none⟩ v2) ⟨b, 3, none⟩ v3) ⟨b, 4, none⟩ v4) ⟨b, 5, none⟩ v5) ⟨b, 6, none⟩ v6) ⟨b, 7, none⟩ v7) (fun k => k = b) := (((((((((Kept.refl w (fun k => k = b)).set (a := ⟨b, 0, none⟩) rfl v0).set (a := ⟨b, 1, none⟩) rfl v1).set (a := ⟨b, 2, none⟩) rfl v2).set (a := ⟨b, 3, none⟩) rfl v3).set (a := ⟨b, 4, none⟩) rfl v4).set (a := ⟨b, 5, none⟩) rfl v5).set (a := ⟨b, 6, none⟩) rfl v6).set (a := ⟨b, 7, none⟩) rfl v7)
theorem box_12 {w : World} {b t : Nat} {r0 r1 r2 r3 r4 r5 r6 r7 r8 r9 r10 r11 : Value} (h : w.heap[b]? = some (.cells #[r0, r1, r2, r3, r4, r5, r6, r7, r8, r9, r10, r11] t (0, 0))) (v0 v1 v2 v3 v4 v5 v6 v7 v8 v9 v10 v11 : Value) :
    (World.setCell (World.setCell (World.setCell (World.setCell (World.setCell (World.setCell (World.setCell (World.setCell (World.setCell (World.setCell (World.setCell (World.setCell w ⟨b, 0, none⟩ v0) ⟨b, 1, none⟩ v1) ⟨b, 2, none⟩ v2) ⟨b, 3, none⟩ v3) ⟨b, 4, none⟩ v4) ⟨b, 5, none⟩ v5) ⟨b, 6, none⟩ v6) ⟨b, 7, none⟩ v7) ⟨b, 8, none⟩ v8) ⟨b, 9, none⟩ v9) ⟨b, 10, none⟩ v10) ⟨b, 11, none⟩ v11).heap[b]? = some (.cells #[v0, v1, v2, v3, v4, v5, v6, v7, v8, v9, v10, v11] t (0, 0)) := by
  have h0 : (World.setCell w ⟨b, 0, none⟩ v0).heap[b]? = some (.cells #[v0, r1, r2, r3, r4, r5, r6, r7, r8, r9, r10, r11] t (0, 0)) := by simpa using blk_set h 0 v0
  have h1 : (World.setCell (World.setCell w ⟨b, 0, none⟩ v0) ⟨b, 1, none⟩ v1).heap[b]? = some (.cells #[v0, v1, r2, r3, r4, r5, r6, r7, r8, r9, r10, r11] t (0, 0)) := by simpa using blk_set h0 1 v1
  have h2 : (World.setCell (World.setCell (World.setCell w ⟨b, 0, none⟩ v0) ⟨b, 1, none⟩ v1) ⟨b, 2, none⟩ v2).heap[b]? = some (.cells #[v0, v1, v2, r3, r4, r5, r6, r7, r8, r9, r10, r11] t (0, 0)) := by simpa using blk_set h1 2 v2
  have h3 : (World.setCell (World.setCell (World.setCell (World.setCell w ⟨b, 0, none⟩ v0) ⟨b, 1, none⟩ v1) ⟨b, 2, none⟩ v2) ⟨b, 3, none⟩ v3).heap[b]? = some (.cells #[v0, v1, v2, v3, r4, r5, r6, r7, r8, r9, r10, r11] t (0, 0)) := by simpa using blk_set h2 3 v3
  have h4 : (World.setCell (World.setCell (World.setCell (World.setCell (World.setCell w ⟨b, 0, none⟩ v0) ⟨b, 1, none⟩ v1) ⟨b, 2, none⟩ v2) ⟨b, 3, none⟩ v3) ⟨b, 4, none⟩ v4).heap[b]? = some (.cells #[v0, v1, v2, v3, v4, r5, r6, r7, r8, r9, r10, r11] t (0, 0)) := by simpa using blk_set h3 4 v4
  have h5 : (World.setCell (World.setCell (World.setCell (World.setCell (World.setCell (World.setCell w ⟨b, 0, none⟩ v0) ⟨b, 1, none⟩ v1) ⟨b, 2, none⟩ v2) ⟨b, 3, none⟩ v3) ⟨b, 4, none⟩ v4) ⟨b, 5, none⟩ v5).heap[b]? = some (.cells #[v0, v1, v2, v3, v4, v5, r6, r7, r8, r9, r10, r11] t (0, 0)) := by simpa using blk_set h4 5 v5
  have h6 : (World.setCell (World.setCell (World.setCell (World.setCell (World.setCell (World.setCell (World.setCell w ⟨b, 0, none⟩ v0) ⟨b, 1, none⟩ v1) ⟨b, 2, none⟩ v2) ⟨b, 3, none⟩ v3) ⟨b, 4, none⟩ v4) ⟨b, 5, none⟩ v5) ⟨b, 6, none⟩ v6).heap[b]? = some (.cells #[v0, v1, v2, v3, v4, v5, v6, r7, r8, r9, r10, r11] t (0, 0)) := by simpa using blk_set h5 6 v6
  have h7 : (World.setCell (World.setCell (World.setCell (World.setCell (World.setCell (World.setCell (World.setCell (World.setCell w ⟨b, 0, none⟩ v0) ⟨b, 1, none⟩ v1) ⟨b, 2, none⟩ v2) ⟨b, 3, none⟩ v3) ⟨b, 4, none⟩ v4) ⟨b, 5, none⟩ v5) ⟨b, 6, none⟩ v6) ⟨b, 7, none⟩ v7).heap[b]? = some (.cells #[v0, v1, v2, v3, v4, v5, v6, v7, r8, r9, r10, r11] t (0, 0)) := by simpa using blk_set h6 7 v7
  have h8 : (World.setCell (World.setCell (World.setCell (World.setCell (World.setCell (World.setCell (World.setCell (World.setCell (World.setCell w ⟨b, 0, none⟩ v0) ⟨b, 1, none⟩ v1) ⟨b, 2, none⟩ v2) ⟨b, 3, none⟩ v3) ⟨b, 4, none⟩ v4) ⟨b, 5, none⟩ v5) ⟨b, 6, none⟩ v6) ⟨b, 7, none⟩ v7) ⟨b, 8, none⟩ v8).heap[b]? = some (.cells #[v0, v1, v2, v3, v4, v5, v6, v7, v8, r9, r10, r11] t (0, 0)) := by simpa using blk_set h7 8 v8
  have h9 : (World.setCell (World.setCell (World.setCell (World.setCell (World.setCell (World.setCell (World.setCell (World.setCell (World.setCell (World.setCell w ⟨b, 0, none⟩ v0) ⟨b, 1, none⟩ v1) ⟨b, 2, none⟩ v2) ⟨b, 3, none⟩ v3) ⟨b, 4, none⟩ v4) ⟨b, 5, none⟩ v5) ⟨b, 6, none⟩ v6) ⟨b, 7, none⟩ v7) ⟨b, 8, none⟩ v8) ⟨b, 9, none⟩ v9).heap[b]? = some (.cells #[v0, v1, v2, v3, v4, v5, v6, v7, v8, v9, r10, r11] t (0, 0)) := by simpa using blk_set h8 9 v9
  have h10 : (World.setCell (World.setCell (World.setCell (World.setCell (World.setCell (World.setCell (World.setCell (World.setCell (World.setCell (World.setCell (World.setCell w ⟨b, 0, none⟩ v0) ⟨b, 1, none⟩ v1) ⟨b, 2, none⟩ v2) ⟨b, 3, none⟩ v3) ⟨b, 4, none⟩ v4) ⟨b, 5, none⟩ v5) ⟨b, 6, none⟩ v6) ⟨b, 7, none⟩ v7) ⟨b, 8, none⟩ v8) ⟨b, 9, none⟩ v9) ⟨b, 10, none⟩ v10).heap[b]? = some (.cells #[v0, v1, v2, v3, v4, v5, v6, v7, v8, v9, v10, r11] t (0, 0)) := by simpa using blk_set h9 10 v10
  have h11 : (World.setCell (World.setCell (World.setCell (World.setCell (World.setCell (World.setCell (World.setCell (World.setCell (World.setCell (World.setCell (World.setCell (World.setCell w ⟨b, 0, none⟩ v0) ⟨b, 1, none⟩ v1) ⟨b, 2, none⟩ v2) ⟨b, 3, none⟩ v3) ⟨b, 4, none⟩ v4) ⟨b, 5, none⟩ v5) ⟨b, 6, none⟩ v6) ⟨b, 7, none⟩ v7) ⟨b, 8, none⟩ v8) ⟨b, 9, none⟩ v9) ⟨b, 10, none⟩ v10) ⟨b, 11, none⟩ v11).heap[b]? = some (.cells #[v0, v1, v2, v3, v4, v5, v6, v7, v8, v9, v10, v11] t (0, 0)) := by simpa using blk_set h10 11 v11
  exact h11
theorem keep_12 (w : World) (b : Nat) (v0 v1 v2 v3 v4 v5 v6 v7 v8 v9 v10 v11 : Value) : Kept w (World.setCell (World.setCell (World.setCell (World.setCell (World.setCell (World.setCell (World.setCell (World.setCell (World.setCell (World.setCell (World.setCell (World.setCell w ⟨b, 0, none⟩ v0) ⟨b, 1, none⟩ v1) ⟨b, 2, none⟩ v2) ⟨b, 3, none⟩ v3) ⟨b, 4, none⟩ v4) ⟨b, 5, none⟩ v5) ⟨b, 6, none⟩ v6) ⟨b, 7, none⟩ v7) ⟨b, 8, none⟩ v8) ⟨b, 9, none⟩ v9) ⟨b, 10, none⟩ v10) ⟨b, 11, none⟩ v11) (fun k => k = b) := (((((((((((((Kept.refl w (fun k => k = b)).set (a := ⟨b, 0, none⟩) rfl v0).set (a := ⟨b, 1, none⟩) rfl v1).set (a := ⟨b, 2, none⟩) rfl v2).set (a := ⟨b, 3, none⟩) rfl v3).set (a := ⟨b, 4, none⟩) rfl v4).set (a := ⟨b, 5, none⟩) rfl v5).set (a := ⟨b, 6, none⟩) rfl v6).set (a := ⟨b, 7, none⟩) rfl v7).set (a := ⟨b, 8, none⟩) rfl v8).set (a := ⟨b, 9, none⟩) rfl v9).set (a := ⟨b, 10, none⟩) rfl v10).set (a := ⟨b, 11, none⟩) rfl v11)

end Go.Proofs.YtfbooamjddnagaaDoor

namespace Go.Proofs.YtfbooamjddnagaaDoor
open Go.RowKit

/-- The party that is read; it need not be good. -/
noncomputable def readP (s : ByteArray) : Party :=
  ⟨numOf (cutA 43 (cutA 64 s)), if cutF 43 (cutA 64 s) then numOf (cutA 47 (cutB 43 (cutA 64 s))) else 0, if cutF 43 (cutA 64 s) then numOf (cutB 47 (cutB 43 (cutA 64 s))) else 0,
    if cutF 64 s then numOf (cutA 120 (cutB 64 s)) else 0, if cutF 64 s then !(cutF 120 (cutB 64 s)) else false, if cutF 64 s && cutF 120 (cutB 64 s) then numOf (cutB 120 (cutB 64 s)) else 0⟩
/-- The party at hand in its box, beside the box of results. -/
structure PBx (w wx : World) (rb pb : Nat) (p : Party) : Prop where
  r : wx.heap[rb]? = some (.cells #[.int .i64 0, .int .i64 0, .int .i64 0, .int .i64 0, .bool false, .int .i64 0] 30 (0, 0))
  b : wx.heap[pb]? = some (.cells #[.int .i64 p.pe, .int .i64 p.len, .int .i64 p.hei, .int .i64 p.cl, .bool p.all, .int .i64 p.be] 30 (0, 0))
  ne : rb ≠ pb
  lo : w.heap.size ≤ rb ∧ w.heap.size ≤ pb
  bel : Below w.heap.size w wx
section
variable {w wx wy : World} {rb pb : Nat} {p : Party}
theorem PBx.below (h : PBx w wx rb pb p) (hb : Below wx.heap.size wx wy) : PBx w wy rb pb p := ⟨blk_below h.r hb, blk_below h.b hb, h.ne, h.lo, after h.bel hb⟩
theorem PBx.len (h : PBx w wx rb pb p) (v : Int) : PBx w (wx.setCell ⟨pb, 1, none⟩ (.int .i64 v)) rb pb { p with len := v } :=
  ⟨blk_set_other h.r 1 _ h.ne, (by simpa using blk_set h.b 1 (.int .i64 v)), h.ne, h.lo, h.bel.setCell h.lo.2 _⟩
theorem PBx.hei (h : PBx w wx rb pb p) (v : Int) : PBx w (wx.setCell ⟨pb, 2, none⟩ (.int .i64 v)) rb pb { p with hei := v } :=
  ⟨blk_set_other h.r 2 _ h.ne, (by simpa using blk_set h.b 2 (.int .i64 v)), h.ne, h.lo, h.bel.setCell h.lo.2 _⟩
theorem PBx.cl (h : PBx w wx rb pb p) (v : Int) : PBx w (wx.setCell ⟨pb, 3, none⟩ (.int .i64 v)) rb pb { p with cl := v } :=
  ⟨blk_set_other h.r 3 _ h.ne, (by simpa using blk_set h.b 3 (.int .i64 v)), h.ne, h.lo, h.bel.setCell h.lo.2 _⟩
theorem PBx.all (h : PBx w wx rb pb p) (v : Bool) : PBx w (wx.setCell ⟨pb, 4, none⟩ (.bool v)) rb pb { p with all := v } :=
  ⟨blk_set_other h.r 4 _ h.ne, (by simpa using blk_set h.b 4 (.bool v)), h.ne, h.lo, h.bel.setCell h.lo.2 _⟩
theorem PBx.be (h : PBx w wx rb pb p) (v : Int) : PBx w (wx.setCell ⟨pb, 5, none⟩ (.int .i64 v)) rb pb { p with be := v } :=
  ⟨blk_set_other h.r 5 _ h.ne, (by simpa using blk_set h.b 5 (.int .i64 v)), h.ne, h.lo, h.bel.setCell h.lo.2 _⟩
end
theorem partyDone {w wx : World} {rb pb : Nat} {p : Party} (h : PBx w wx rb pb p) (v0 v1 v2 v3 v4 v5 : Value) : Below w.heap.size w (World.setCell (World.setCell (World.setCell (World.setCell (World.setCell (World.setCell wx ⟨rb, 0, none⟩ v0) ⟨rb, 1, none⟩ v1) ⟨rb, 2, none⟩ v2) ⟨rb, 3, none⟩ v3) ⟨rb, 4, none⟩ v4) ⟨rb, 5, none⟩ v5) :=
  Kept.below h.bel h.bel.size (keep_6 wx rb v0 v1 v2 v3 v4 v5) (fun k e => by have e : k = rb := e; rw [e]; exact h.lo.1)

set_option maxHeartbeats 3200000 in
set_option maxRecDepth 100000 in
theorem partyIn_any (s : ByteArray) (w : World) (hs : s.size ≤ 1000000000) (hP : PowAt w) :
    Calls Tryd.prog 87 #[.string s] w fun e w' => e = .returned (.agg #[.int .i64 (readP s).pe, .int .i64 (readP s).len, .int .i64 (readP s).hei, .int .i64 (readP s).cl, .bool (readP s).all, .int .i64 (readP s).be]) ∧ Below w.heap.size w w' := by
  have HP : Hid (PowAt w) := hP
  clear hP
  have z1 := cut_size 64 s
  have z2 := cut_size 43 (cutA 64 s)
  have c1 := fun W => cut_any s 64 W (by omega)
  have c2 := fun W => cut_any (cutA 64 s) 43 W (by omega)
  have c3 := fun W hW => pairIn_any (cutB 43 (cutA 64 s)) W (by omega) hW
  have c4 := fun W => cut_any (cutB 64 s) 120 W (by omega)
  have n1 := fun W hW => numberIn_any (cutA 43 (cutA 64 s)) W hW
  have n2 := fun W hW => numberIn_any (cutA 120 (cutB 64 s)) W hW
  have n3 := fun W hW => numberIn_any (cutB 120 (cutB 64 s)) W hW
  have hR : readP s = ⟨numOf (cutA 43 (cutA 64 s)), if cutF 43 (cutA 64 s) then numOf (cutA 47 (cutB 43 (cutA 64 s))) else 0, if cutF 43 (cutA 64 s) then numOf (cutB 47 (cutB 43 (cutA 64 s))) else 0,
    if cutF 64 s then numOf (cutA 120 (cutB 64 s)) else 0, if cutF 64 s then !(cutF 120 (cutB 64 s)) else false, if cutF 64 s && cutF 120 (cutB 64 s) then numOf (cutB 120 (cutB 64 s)) else 0⟩ := rfl
  generalize readP s = R at hR ⊢
  generalize numOf (cutA 47 (cutB 43 (cutA 64 s))) = m1 at c3 hR
  generalize numOf (cutB 47 (cutB 43 (cutA 64 s))) = m2 at c3 hR
  generalize numOf (cutA 43 (cutA 64 s)) = m0 at n1 hR
  generalize numOf (cutA 120 (cutB 64 s)) = m3 at n2 hR
  generalize numOf (cutB 120 (cutB 64 s)) = m4 at n3 hR
  generalize cutF 120 (cutB 64 s) = f3 at c4 hR
  generalize cutF 43 (cutA 64 s) = f2 at c2 hR
  generalize cutF 64 s = f1 at c1 hR
  generalize cutA 120 (cutB 64 s) = a3 at c4 n2
  generalize cutB 120 (cutB 64 s) = b3 at c4 n3
  generalize cutA 43 (cutA 64 s) = a2 at c2 n1
  generalize cutB 43 (cutA 64 s) = b2 at c2 c3 z2
  generalize cutB 64 s = b1 at c1 c4 z1
  generalize cutA 64 s = a1 at c1 c2 z1 z2
  have C1 : Hid _ := c1
  have C2 : Hid _ := c2
  have C3 : Hid _ := c3
  have C4 : Hid _ := c4
  have N1 : Hid _ := n1
  have N2 : Hid _ := n2
  have N3 : Hid _ := n3
  have HR : Hid (R = ⟨m0, if f2 then m1 else 0, if f2 then m2 else 0, if f1 then m3 else 0, if f1 then !f3 else false, if f1 && f3 then m4 else 0⟩) := hR
  clear c1 c2 c3 c4 n1 n2 n3 hR z1 z2
  have hr := heap_alloc_new w (.cells #[.int .i64 0, .int .i64 0, .int .i64 0, .int .i64 0, .bool false, .int .i64 0] 30)
  have hb0 : Below w.heap.size w (w.alloc (.cells #[.int .i64 0, .int .i64 0, .int .i64 0, .int .i64 0, .bool false, .int .i64 0] 30)) := push (Below.refl _ _) _
  go_enter Tryd.func87, Tryd.ntmps87
  go_upto_region 1 with fail
  generalize w.alloc (.cells #[.int .i64 0, .int .i64 0, .int .i64 0, .int .i64 0, .bool false, .int .i64 0] 30) = W at hr hb0 ⊢
  go_wp2_with fail
  refine (C1.out _).mono ?_
  rintro e w1 ⟨rfl, hb⟩
  have hr1 := blk_below hr hb
  have hb1 := after hb0 hb
  clear hr hb0 hb
  go_wp2_with fail
  refine (C2.out _).mono ?_
  rintro e w2 ⟨rfl, hb⟩
  have hr2 := blk_below hr1 hb
  have hb2 := after hb1 hb
  clear hr1 hb1 hb
  go_wp2_with fail
  refine (N1.out _ (HP.out.below hb2)).mono ?_
  rintro e w3 ⟨rfl, hb⟩
  have hr3 := blk_below hr2 hb
  have hb3 := after hb2 hb
  have hlt := blk_lt hr3
  have HB : Hid (PBx w (w3.alloc (.cells #[.int .i64 m0, .int .i64 0, .int .i64 0, .int .i64 0, .bool false, .int .i64 0] 30)) w.heap.size w3.heap.size ⟨m0, 0, 0, 0, false, 0⟩) :=
    ⟨blk_alloc hr3 _, heap_alloc_new w3 _, by omega, ⟨Nat.le_refl _, by omega⟩, push hb3 _⟩
  clear hr2 hb2 hb hr3 hb3
  go_upto_region 4 with fail
  generalize w3.alloc (.cells #[.int .i64 m0, .int .i64 0, .int .i64 0, .int .i64 0, .bool false, .int .i64 0] 30) = W3 at HB ⊢
  generalize w3.heap.size = pb at HB ⊢
  go_upto_if 28 with fail
  go_cut [] (fun wx => Hid (PBx w wx w.heap.size pb ⟨m0, if f2 then m1 else 0, if f2 then m2 else 0, 0, false, 0⟩))
  case first =>
    cases f2 with
    | false =>
      go_wp2
      go_meet
      exact HB.out
    | true =>
      go_wp2_with fail
      refine (C3.out _ (HP.out.below HB.out.bel)).mono ?_
      rintro e w4 ⟨rfl, hb⟩
      have HB4 : Hid _ := HB.out.below hb
      have b4 := HB4.out.b
      have x1 := blk_cell b4 1 _ rfl
      have x2 := blk_cell b4 2 _ rfl
      have g1 := blk_free b4 1
      have g2 := blk_free b4 2
      have HB5 : Hid _ := (HB4.out.len m1).hei m2
      clear b4 HB
      go_wp2
      go_meet
      exact HB5.out
  case rest =>
  have HC := hcut
  clear hcut HB
  obtain ⟨q, hq⟩ : ∃ q : Party, q = ⟨m0, if f2 then m1 else 0, if f2 then m2 else 0, 0, false, 0⟩ := ⟨_, rfl⟩
  rw [← hq] at HC
  have HQ : Hid (q = ⟨m0, if f2 then m1 else 0, if f2 then m2 else 0, 0, false, 0⟩) := hq
  clear hq
  have HQR : Hid (R = { q with cl := if f1 then m3 else 0, all := if f1 then !f3 else false, be := if f1 && f3 then m4 else 0 }) := by
    show R = _
    rw [HR.out, HQ.out]
  have HQ0 : Hid (q.cl = 0 ∧ q.all = false ∧ q.be = 0) := by rw [HQ.out]; exact ⟨rfl, rfl, rfl⟩
  clear HR HQ
  go_upto_if 36 with fail
  go_cut [] (fun wx => Hid (PBx w wx w.heap.size pb R))
  case first =>
    cases f1 with
    | false =>
      have e : R = q := by
        rw [HQR.out]
        obtain ⟨a, b, c, d, e, f⟩ := q
        have h := HQ0.out
        dsimp only at h
        obtain ⟨rfl, rfl, rfl⟩ := h
        rfl
      have HC2 : Hid (PBx w wc w.heap.size pb R) := by rw [e]; exact HC.out
      clear e HC
      go_wp2
      go_meet
      exact HC2.out
    | true =>
      go_wp2_with fail
      refine (C4.out _).mono ?_
      rintro e w4 ⟨rfl, hb⟩
      have HB4 : Hid _ := HC.out.below hb
      clear HC hb
      go_wp2_with fail
      refine (N2.out _ (HP.out.below HB4.out.bel)).mono ?_
      rintro e w5 ⟨rfl, hb⟩
      have HB5 : Hid (PBx w w5 w.heap.size pb q) := HB4.out.below hb
      clear HB4 hb
      have b5 := HB5.out.b
      have x3 := blk_cell b5 3 _ rfl
      have x4 := blk_cell b5 4 _ rfl
      have g3 := blk_free b5 3
      have g4 := blk_free b5 4
      have HB6 : Hid _ := (HB5.out.cl m3).all (!f3)
      clear b5 HB5
      go_upto_if 49 with fail
      cases f3 with
      | false =>
        have e : R = { q with cl := m3, all := true } := by
          rw [HQR.out]
          obtain ⟨a, b, c, d, e, f⟩ := q
          have h := HQ0.out
          dsimp only at h
          obtain ⟨rfl, rfl, rfl⟩ := h
          rfl
        have HE : Hid (R = { q with cl := m3, all := true }) := e
        clear e
        go_wp2
        go_meet
        rw [HE.out]
        exact HB6.out
      | true =>
        have e : R = { q with cl := m3, all := false, be := m4 } := by
          rw [HQR.out]
          rfl
        have HE : Hid (R = { q with cl := m3, all := false, be := m4 }) := e
        clear e
        generalize World.setCell (World.setCell w5 ⟨pb, 3, none⟩ (.int .i64 m3)) ⟨pb, 4, none⟩ _ = W6 at HB6 ⊢
        go_wp2_with fail
        refine (N3.out _ (HP.out.below HB6.out.bel)).mono ?_
        rintro e w7 ⟨rfl, hb⟩
        have HB7 : Hid _ := HB6.out.below hb
        have b7 := HB7.out.b
        have x5 := blk_cell b7 5 _ rfl
        have g5 := blk_free b7 5
        have HB8 : Hid _ := HB7.out.be m4
        clear b7 HB6 hb
        go_wp2
        go_meet
        rw [HE.out]
        exact HB8.out
  case rest =>
  have HD := hcut
  clear hcut HC HQR HQ0
  have bp := HD.out.b
  have br := HD.out.r
  have p0 := blk_cell bp 0 _ rfl
  have r0 := blk_cell br 0 _ rfl
  have q0 := blk_free br 0
  have p1 := blk_cell bp 1 _ rfl
  have r1 := blk_cell br 1 _ rfl
  have q1 := blk_free br 1
  have p2 := blk_cell bp 2 _ rfl
  have r2 := blk_cell br 2 _ rfl
  have q2 := blk_free br 2
  have p3 := blk_cell bp 3 _ rfl
  have r3 := blk_cell br 3 _ rfl
  have q3 := blk_free br 3
  have p4 := blk_cell bp 4 _ rfl
  have r4 := blk_cell br 4 _ rfl
  have q4 := blk_free br 4
  have p5 := blk_cell bp 5 _ rfl
  have r5 := blk_cell br 5 _ rfl
  have q5 := blk_free br 5
  have rF := box_6 br (.int .i64 R.pe) (.int .i64 R.len) (.int .i64 R.hei) (.int .i64 R.cl) (.bool R.all) (.int .i64 R.be)
  have HF : Hid _ := partyDone HD.out (.int .i64 R.pe) (.int .i64 R.len) (.int .i64 R.hei) (.int .i64 R.cl) (.bool R.all) (.int .i64 R.be)
  clear bp br
  go_wp2
  have z0 := blk_cell rF 0 _ rfl
  have z1 := blk_cell rF 1 _ rfl
  have z2 := blk_cell rF 2 _ rfl
  have z3 := blk_cell rF 3 _ rfl
  have z4 := blk_cell rF 4 _ rfl
  have z5 := blk_cell rF 5 _ rfl
  exact bodyPost_ret (v := .agg #[.int .i64 R.pe, .int .i64 R.len, .int .i64 R.hei, .int .i64 R.cl, .bool R.all, .int .i64 R.be]) (by simp [results, Tryd.results87, go_sem, z0, z1, z2, z3, z4, z5]) rfl ⟨rfl, HF.out⟩

end Go.Proofs.YtfbooamjddnagaaDoor

namespace Go.Proofs.YtfbooamjddnagaaDoor
open Go.RowKit

/-- The numbers that are read. -/
def LegsRead (s : ByteArray) (L : List Int) : Prop := L.length ≤ s.size + 1 ∧ ((s = ⟨#[45]⟩ ∧ L = []) ∨ (s ≠ ⟨#[45]⟩ ∧ ∃ l, Parts 44 s l ∧ L = l.map numOf))

set_option maxHeartbeats 1600000 in
set_option maxRecDepth 100000 in
theorem listIn_any (s : ByteArray) (w : World) (hs : s.size ≤ 1048576) (hP : PowAt w) :
    Calls Tryd.prog 85 #[.string s, .func (.func 86) #[] #[]] w fun e w' => ∃ v L, e = .returned v ∧ w'.ownsRow w.heap.size 3 1 v L.length (cellsI L) ∧ Hid (LegsRead s L) ∧ Below w.heap.size w w' := by
  have HP : Hid (PowAt w) := hP
  clear hP
  obtain ⟨j0, ji, jz0, jz1, jz2⟩ := info_parts Tryd.infoInt
  by_cases h45 : s = ⟨#[45]⟩
  · have e45 : (s.toList == (⟨#[45]⟩ : ByteArray).toList) = true := bytes_eq.2 h45
    have HR : Hid (LegsRead s []) := ⟨by simp, .inl ⟨h45, rfl⟩⟩
    have e1 : s.toList = [45] := by rw [h45]; simp [ByteArray.toList_eq]
    clear h45
    go_enter Tryd.func85, Tryd.ntmps85
    go_wp2
    go_ret
    exact ⟨_, [], rfl, World.ownsRow_nil _ _ _ _, HR, Below.refl _ _⟩
  · have e45 : (s.toList == [45]) = false := by
      rw [beq_eq_false_iff_ne]
      intro e
      exact h45 (toList_inj (by rw [e]; simp [ByteArray.toList_eq]))
    have e1 : ¬ s.toList = [45] := by rwa [beq_eq_false_iff_ne] at e45
    have HNE : Hid (s ≠ ⟨#[45]⟩) := h45
    clear h45
    go_enter Tryd.func85, Tryd.ntmps85
    go_wp2_with fail
    refine (partsIn_any s 44 _ (by decide) hs).mono ?_
    rintro e w2 ⟨v, l, rfl, ho, hp, hb2⟩
    obtain ⟨pa, pc, rfl, hpc, hpm, hpn⟩ := own_form ho
    have HO : Hid (OwnT w2 w.heap.size (.slice pa l.length pc) l) := ho
    have HPT : Hid (Parts 44 s l ∧ l.length ≤ s.size + 1) := hp.out
    have hll : l.length ≤ 1048577 := by have := hp.out.2; omega
    clear ho hp
    go_wp2
    go_loopw [5, 7, 13] (fun v _ i wr => ∃ k : Nat, k ≤ l.length ∧ i = .int .i64 k ∧ Hid (wr.ownsRow w.heap.size 3 1 v k (cellsI ((l.take k).map numOf))) ∧ Hid (OwnT wr w.heap.size (.slice pa l.length pc) l) ∧ Below w.heap.size w wr)
      (fun _ _ i _ => l.length - (intOf i).toNat)
    case atStart => exact ⟨0, Nat.zero_le _, rfl, World.ownsRow_nil _ _ _ _, HO.out, hb2⟩
    case round =>
      clear HO
      obtain ⟨k, hk, rfl, HN, HO, hbel⟩ := hrel
      by_cases hlt : k < l.length
      · obtain ⟨g, hpa, _, hg⟩ := own_addr HO.out (by omega)
        subst hpa
        have hx : l[k]? = some (l[k]'hlt) := List.getElem?_eq_getElem hlt
        have hc : wr.cell? ⟨g, k, none⟩ = some (.string (l[k]'hlt)) := by rw [World.ownsRow.cellAt HO.out k (by omega), List.getElem?_map, hx]; rfl
        have hL : (l.take (k + 1)).map numOf = (l.take k).map numOf ++ [numOf (l[k]'hlt)] := by rw [List.take_add_one, hx, List.map_append]; rfl
        have HL : Hid ((l.take (k + 1)).map numOf = (l.take k).map numOf ++ [numOf (l[k]'hlt)]) := hL
        have hkl : ((l.take k).map numOf).length = k := by rw [List.length_map, List.length_take]; omega
        generalize l[k]'hlt = x at hc HL
        obtain ⟨va, vc, rfl, _⟩ := own_form HN.out
        clear hx hL
        go_wp2_with fail
        refine (numberIn_any x _ (HP.out.below hbel)).mono ?_
        rintro e w3 ⟨rfl, hb3⟩
        have HN3 : Hid (World.ownsRow (w3.alloc (.cells #[.int .i64 (numOf x)] 3)) w.heap.size 3 1 (.slice va k vc) k (cellsI ((l.take k).map numOf))) := own_below (push (Below.refl _ _) _) (own_below hb3 HN.out)
        have HO3 : Hid (OwnT (w3.alloc (.cells #[.int .i64 (numOf x)] 3)) w.heap.size (.slice (some ⟨g, 0, none⟩) l.length pc) l) := own_below (push (Below.refl _ _) _) (own_below hb3 HO.out)
        have hb4 : Below w.heap.size w (w3.alloc (.cells #[.int .i64 (numOf x)] 3)) := push (after hbel hb3) _
        have hsz := hb4.size
        clear HN HO hbel hb3 hc
        go_wp2_with (first | (at_builtin; refine wpList_append_any _ (by rfl) (.tmp 17) (.tmp 21) 22 (by rfl) w.heap.size 3 j0 (.int .i64 0) 1 8 Tryd.underlying22 ji jz0 jz1 jz2 rfl (by decide) _ k (cellsI ((l.take k).map numOf)) (by rfl) HN3.out (some ⟨w3.heap.size, 0, none⟩) 1 1 [.int .i64 (numOf x)] (by rfl) (fun h => by cases h) (by rfl) (fun ad h => by cases h; exact World.news_of_block (heap_alloc_new w3 _)) (by intro u hu; simp only [List.mem_cons, List.not_mem_nil, or_false] at hu; subst hu; rfl) (by unfold maxLen; omega) (by omega) hsz ?_; intro v9 w9 ho9 hg9))
        have HN9 : Hid (World.ownsRow w9 w.heap.size 3 1 v9 (k + 1) (cellsI ((l.take (k + 1)).map numOf))) := by
          rw [HL.out, cellsI_snoc]
          exact ho9
        have HO9 : Hid (OwnT w9 w.heap.size (.slice (some ⟨g, 0, none⟩) l.length pc) l) := (kept_row hg9).own HO3.out (fun g1 h1 e1 => own_apart HO3.out HN3.out (by decide) g1 h1 e1)
        have hb9 := hb4.grown hg9 hsz (fun j hj => (World.ownsRow.lt HN3.out j hj).1)
        clear HN3 HO3 hb4 ho9 hg9 hsz
        go_roundw
        case rel => exact ⟨k + 1, by omega, by go_num, HN9.out, HO9.out, hb9⟩
        case measure => simp [intOf]; omega
      · obtain rfl : k = l.length := by omega
        have HF : Hid (LegsRead s (l.map numOf)) := ⟨by rw [List.length_map]; exact HPT.out.2, .inr ⟨HNE.out, l, HPT.out.1, rfl⟩⟩
        have hN := HN.out
        rw [List.take_of_length_le (Nat.le_refl _)] at hN
        have hl2 : (l.map numOf).length = l.length := by simp
        have HN2 : Hid (wr.ownsRow w.heap.size 3 1 u5 (l.map numOf).length (cellsI (l.map numOf))) := by rw [hl2]; exact hN
        clear HN hN hl2
        go_wp2
        go_ret
        exact ⟨_, _, rfl, HN2.out, HF, hbel⟩

end Go.Proofs.YtfbooamjddnagaaDoor
