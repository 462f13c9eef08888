/-
  OWN TEXT: ListI, WhereI, NameI, CarW, ClassI.
-/
import Derived.Deep.DeepCutAuto
import Derived.Test.YtfallpinmhbemaaGreatDoorB29
import Derived.Test.YtfallpinmhbemaaGreatDoorB04
namespace Go.Proofs.YtfallpinmhbemaaGreatDoor
open Go.RowKit

theorem Tryz.infoText : (Tryz.prog.info? 9).map (fun i => (i.zero, i.size, i.bytes)) = some (some (.string ⟨#[]⟩), 1, 16) := by kernel_rfl
theorem join_row (sep : ByteArray) (g n : Nat) (F : Nat → ByteArray) (w : World) (h : w.rowIs g 9 n (fun k => .string (F k))) (hn : 0 < n) (hN : n ≤ 1048576) (hl : (joinT sep ((List.range n).map F)).size ≤ 140737488355328) :
    Calls Tryz.prog 16 #[.slice (some ⟨g, 0, none⟩) n n, .string sep] w fun e w' => e = .returned (.string (joinT sep ((List.range n).map F))) ∧ Below w.heap.size w w' := by
  have hlen : ((List.range n).map F).length = n := by simp
  have hc : ∀ (j : Nat) x, ((List.range n).map F)[j]? = some x → w.cell? ⟨g, 0 + j, none⟩ = some (.string x) := fun j x hx => by
    have hj : j < n := by
      rcases Nat.lt_or_ge j n with h' | h'
      · exact h'
      · rw [List.getElem?_eq_none (by simpa using h')] at hx; cases hx
    rw [List.getElem?_map, List.getElem?_range hj] at hx
    cases hx
    rw [Nat.zero_add]
    exact h.cell hj
  have key := Any.strings_Join Tryz.lays156 Tryz.extra156 g 0 n ((List.range n).map F) sep w hc h.lt (by omega) (by omega) (by
      have e : (joinT sep ((List.range n).map F)).size = (Lib.join (((List.range n).map F).map (·.data.toList)) sep.data.toList).length := by show (Lib.join (((List.range n).map F).map (·.data.toList)) sep.data.toList).toArray.size = _; simp
      rw [← e]; exact hl)
  rw [hlen] at key
  exact key

set_option maxHeartbeats 800000 in
theorem listInt_any (ao : Option Addr) (n cap : Nat) (f : Nat → Int) (w : World) (hn0 : 0 < n) (hn : n ≤ 3) (hz : IntsAt w ao n f) (hi : ∀ i, i < n → In (f i) 0 99999) (hP : PowAt w) :
    Calls Tryz.prog 40 #[.slice ao n cap, .func (.func 39) #[] #[]] w fun e w' => e = .returned (.string (legsT n f)) ∧ Below w.heap.size w w' := by
  have hmk := run_make_row' (P := Tryz.prog) 46 9 (.string ⟨#[]⟩) 16 Tryz.underlying46 Tryz.infoText rfl .i64 .i64 n (by omega) (by omega)
  have d0 : ((n : Int) == 0) = false := by rw [beq_eq_false_iff_ne]; omega
  have HP : Hid (PowAt w) := hP
  have HI : Hid (∀ i, i < n → In (f i) 0 99999) := hi
  clear hP hi
  go_enter Tryz.func40, Tryz.ntmps40
  go_wp2
  go_loopw [6, 7, 16] (fun _ _ i wr => ∃ k : Nat, k ≤ n ∧ i = .int .i64 k ∧ wr.rowIs w.heap.size 9 n (fun j => if j < k then .string (numT (f j)) else .string ⟨#[]⟩) ∧ Below w.heap.size w wr)
    (fun _ _ i _ => n - (intOf i).toNat)
  case atStart => exact ⟨0, Nat.zero_le _, rfl, (World.rowIs_made _ _ _ _).congr (by simp), (Below.refl _ _).alloc (Nat.le_refl _) _⟩
  case round =>
    obtain ⟨k, hk, rfl, hrow, hbel⟩ := hrel
    by_cases hlt : k < n
    · obtain ⟨b, off, rfl, hc⟩ := (hz k (by omega))
      have hc' : wr.cell? ⟨b, off + k, none⟩ = some (.int .i64 (f k)) := (hbel.cell (World.block_lt_of_cell? w _ hc)).trans hc
      have hik := HI.out k hlt
      unfold In at hik
      clear hc
      go_wp2_with fail
      refine (itoa_any (f k) (by omega) (by omega) _ (HP.out.below hbel)).mono ?_
      rintro e w2 ⟨rfl, hb2⟩
      have hrow2 := row_below hrow hb2
      have hbel2 := after hbel hb2
      have ho := hrow2.cell (i := k) hlt
      have hf := hrow2.frozen k
      simp only [Nat.lt_irrefl, if_false] at ho
      clear hrow hbel hb2
      go_wp2
      go_roundw
      case rel => exact ⟨k + 1, by omega, by go_num, (hrow2.set k _).congr (fun j hj => fill_step (fun j => Value.string (numT (f j))) _ k j), hbel2.setCell (Nat.le_refl _) _⟩
      case measure => simp [intOf]; omega
    · have hfull : wr.rowIs w.heap.size 9 n (fun j => .string (numT (f j))) := hrow.congr (fun j hj => by rw [if_pos (by omega)])
      have hsz := joinT_le coT (by show 1 ≤ 1; omega) ((List.range n).map (fun i => numT (f i))) (fun p hp => by
        obtain ⟨i, hi, rfl⟩ := List.mem_map.1 hp
        have h1 := HI.out i (by simpa using hi)
        unfold In at h1
        have := numT_size (n := f i) (by omega) (by omega)
        omega)
      have HF : Hid (wr.rowIs w.heap.size 9 n (fun j => .string (numT (f j)))) := hfull
      clear hrow hfull
      go_wp2_with fail
      refine (join_row coT w.heap.size n (fun i => numT (f i)) _ HF.out hn0 (by omega) (by rw [List.length_map, List.length_range] at hsz; omega)).mono ?_
      rintro e w3 ⟨rfl, hb3⟩
      go_wp2
      go_ret
      exact ⟨rfl, after hbel hb3⟩

end Go.Proofs.YtfallpinmhbemaaGreatDoor

namespace Go.Proofs.YtfallpinmhbemaaGreatDoor
open Go.RowKit

theorem isTime_is (x : Int) (w : World) :
    Calls Tryz.prog 35 #[.int .i64 x] w fun e w' => e = .returned (.bool (decide (In x 0 10000))) ∧ w' = w := by
  go_enter Tryz.func35, Tryz.ntmps35
  go_wp2_with (first | (go_at_call 31; refine (within_is _ _ _ _).mono ?_; rintro e w' ⟨rfl, rfl⟩))
  go_ret
  exact ⟨rfl, rfl⟩
theorem goodWhere_is (a b c : Bool) (w : World) :
    Calls Tryz.prog 32 #[.bool a, .bool b, .bool c] w fun e w' => e = .returned (.bool (if a then b else c)) ∧ w' = w := by
  cases a with
  | true =>
    go_enter Tryz.func32, Tryz.ntmps32
    go_wp2
    go_ret
    exact ⟨rfl, rfl⟩
  | false =>
    go_enter Tryz.func32, Tryz.ntmps32
    go_wp2
    go_ret
    exact ⟨rfl, rfl⟩

end Go.Proofs.YtfallpinmhbemaaGreatDoor

namespace Go.Proofs.YtfallpinmhbemaaGreatDoor
open Go.RowKit

theorem isLetter_is (b : Int) (w : World) : Calls Tryz.prog 81 #[.int .u8 b] w fun e w' => e = .returned (.bool (decide (Letter b))) ∧ w' = w := by
  obtain ⟨c, hc⟩ : ∃ c, c = decide (Letter b) := ⟨_, rfl⟩
  rw [← hc]
  have HC : Hid (c = decide (Letter b)) := hc
  clear hc
  by_cases h1 : 97 ≤ b
  · have e1 : decide (97 ≤ b) = true := by simpa using h1
    by_cases h2 : b ≤ 122
    · have e2 : decide (b ≤ 122) = true := by simpa using h2
      go_enter Tryz.func81, Tryz.ntmps81
      go_wp2
      go_ret
      exact ⟨by rw [HC.out, decide_eq_true (.inl ⟨h1, h2⟩)]; rfl, rfl⟩
    · have e2 : decide (b ≤ 122) = false := by simpa using h2
      have e3 : decide (65 ≤ b) = true := by simp; omega
      have e4 : decide (b ≤ 90) = false := by simp; omega
      go_enter Tryz.func81, Tryz.ntmps81
      go_wp2
      go_ret
      exact ⟨by rw [HC.out, decide_eq_false (by rintro (h | h) <;> omega)]; rfl, rfl⟩
  · have e1 : decide (97 ≤ b) = false := by simpa using h1
    by_cases h3 : 65 ≤ b
    · have e3 : decide (65 ≤ b) = true := by simpa using h3
      by_cases h4 : b ≤ 90
      · have e4 : decide (b ≤ 90) = true := by simpa using h4
        go_enter Tryz.func81, Tryz.ntmps81
        go_wp2
        go_ret
        exact ⟨by rw [HC.out, decide_eq_true (.inr ⟨h3, h4⟩)]; rfl, rfl⟩
      · have e4 : decide (b ≤ 90) = false := by simpa using h4
        go_enter Tryz.func81, Tryz.ntmps81
        go_wp2
        go_ret
        exact ⟨by rw [HC.out, decide_eq_false (by rintro (h | h) <;> omega)]; rfl, rfl⟩
    · have e3 : decide (65 ≤ b) = false := by simpa using h3
      go_enter Tryz.func81, Tryz.ntmps81
      go_wp2
      go_ret
      exact ⟨by rw [HC.out, decide_eq_false (by rintro (h | h) <;> omega)]; rfl, rfl⟩

set_option maxHeartbeats 400000 in
theorem isName_any (s : ByteArray) (w : World) (hs : s.size ≤ 1000000000000000) :
    Calls Tryz.prog 33 #[.string s] w fun e w' => SaysIf (IsName s) e ∧ w' = w := by
  by_cases h0 : In (s.size : Int) 1 12
  · have HI : Hid (In (s.size : Int) 1 12) := h0
    have d0 : decide (In (s.size : Int) 1 12) = true := decide_eq_true h0
    have hs2 : s.size ≤ 12 := by have := h0.2; omega
    clear h0
    go_enter Tryz.func33, Tryz.ntmps33
    go_wp2_with (first | (go_at_call 31; refine (within_is _ _ _ _).mono ?_; rintro e w' ⟨rfl, hw'⟩; have hw' := hw'.symm; subst hw'))
    go_loop [3, 10] (fun _ i => ∃ k : Nat, k ≤ s.size ∧ i = .int .i64 k ∧ ∀ j, j < k → Letter (byteAt s j)) (fun _ i => s.size - (intOf i).toNat)
    case atStart => exact ⟨0, Nat.zero_le _, rfl, fun j hj => by omega⟩
    case round =>
      obtain ⟨k, hk, rfl, hall⟩ := hrel
      have HA : Hid (∀ j, j < k → Letter (byteAt s j)) := hall
      clear hall
      by_cases hlt : k < s.size
      · by_cases hL : Letter (byteAt s k)
        · have dL : decide (Letter (byteAt s k)) = true := decide_eq_true hL
          have HK : Hid (Letter (byteAt s k)) := hL
          clear hL
          rw [← byteAt_is s k hlt] at dL
          go_wp2_with (first | (go_at_call 81; refine (isLetter_is _ _).mono ?_; rintro e w' ⟨rfl, hw'⟩; have hw' := hw'.symm; subst hw'))
          go_round
          case rel => exact ⟨k + 1, by omega, by go_num, fun j hj => by
            by_cases e : j = k
            · subst e; exact HK.out
            · exact HA.out j (by omega)⟩
          case measure => simp [intOf]; omega
        · have dL : decide (Letter (byteAt s k)) = false := decide_eq_false hL
          have HK : Hid (¬ Letter (byteAt s k)) := hL
          clear hL
          rw [← byteAt_is s k hlt] at dL
          go_wp2_with (first | (go_at_call 81; refine (isLetter_is _ _).mono ?_; rintro e w' ⟨rfl, hw'⟩; have hw' := hw'.symm; subst hw'))
          go_ret
          exact ⟨says_no (fun h => HK.out (h.2.2 k hlt)), rfl⟩
      · obtain rfl : k = s.size := by omega
        go_wp2
        go_ret
        exact ⟨says_yes ⟨by have := HI.out.1; omega, by have := HI.out.2; omega, HA.out⟩, rfl⟩
  · have HI : Hid (¬ In (s.size : Int) 1 12) := h0
    have d0 : decide (In (s.size : Int) 1 12) = false := decide_eq_false h0
    clear h0
    go_enter Tryz.func33, Tryz.ntmps33
    go_wp2_with (first | (go_at_call 31; refine (within_is _ _ _ _).mono ?_; rintro e w' ⟨rfl, hw'⟩; have hw' := hw'.symm; subst hw'))
    go_ret
    exact ⟨says_no (fun h => HI.out ⟨by have := h.1; omega, by have := h.2.1; omega⟩), rfl⟩

theorem isName_is (s : ByteArray) (w : World) (hs : s.size ≤ 1000000000000000) :
    Calls Tryz.prog 33 #[.string s] w fun e w' => e = .returned (.bool (decide (IsName s))) ∧ w' = w := by
  refine (isName_any s w hs).mono ?_
  rintro e w' ⟨⟨b', rfl, h⟩, rfl⟩
  rw [bool_eq h (decide_eq_true_iff (p := IsName s))]
  exact ⟨rfl, rfl⟩

end Go.Proofs.YtfallpinmhbemaaGreatDoor

namespace Go.Proofs.YtfallpinmhbemaaGreatDoor
open Go.RowKit

theorem isCar_is (x y : Int) (w : World) :
    Calls Tryz.prog 83 #[.int .i64 x, .int .i64 y] w fun e w' => e = .returned (.bool (decide (In x 1 2000 ∧ In y 1 500))) ∧ w' = w := by
  obtain ⟨c, hc⟩ : ∃ c, c = decide (In x 1 2000 ∧ In y 1 500) := ⟨_, rfl⟩
  rw [← hc]
  have HC : Hid (c = decide (In x 1 2000 ∧ In y 1 500)) := hc
  clear hc
  by_cases h1 : In x 1 2000
  · have e1 : decide (In x 1 2000) = true := decide_eq_true h1
    have H1 : Hid (In x 1 2000) := h1
    clear h1
    by_cases h2 : In y 1 500
    · have e2 : decide (In y 1 500) = true := decide_eq_true h2
      have H2 : Hid (In y 1 500) := h2
      clear h2
      go_enter Tryz.func83, Tryz.ntmps83
      go_wp2_with (first | (go_at_call 31; refine (within_is _ _ _ _).mono ?_; rintro e w' ⟨rfl, hw'⟩; have hw' := hw'.symm; subst hw'))
      go_ret
      exact ⟨by rw [HC.out, decide_eq_true ⟨H1.out, H2.out⟩]; rfl, rfl⟩
    · have e2 : decide (In y 1 500) = false := decide_eq_false h2
      have H2 : Hid (¬ In y 1 500) := h2
      clear h2
      go_enter Tryz.func83, Tryz.ntmps83
      go_wp2_with (first | (go_at_call 31; refine (within_is _ _ _ _).mono ?_; rintro e w' ⟨rfl, hw'⟩; have hw' := hw'.symm; subst hw'))
      go_ret
      exact ⟨by rw [HC.out, decide_eq_false (fun h => H2.out h.2)]; rfl, rfl⟩
  · have e1 : decide (In x 1 2000) = false := decide_eq_false h1
    have H1 : Hid (¬ In x 1 2000) := h1
    clear h1
    go_enter Tryz.func83, Tryz.ntmps83
    go_wp2_with (first | (go_at_call 31; refine (within_is _ _ _ _).mono ?_; rintro e w' ⟨rfl, hw'⟩; have hw' := hw'.symm; subst hw'))
    go_ret
    exact ⟨by rw [HC.out, decide_eq_false (fun h => H1.out h.1)]; rfl, rfl⟩

end Go.Proofs.YtfallpinmhbemaaGreatDoor

namespace Go.Proofs.YtfallpinmhbemaaGreatDoor
open Go.RowKit

/-- isClass: whether a cabin's class is one; the world is as it was. -/
theorem class_is (x : Int) (w : World) :
    Calls Tryz.prog 97 #[.int .i64 x] w fun e w' => e = .returned (.bool (decide (In x 1 3))) ∧ w' = w := by
  go_enter Tryz.func97, Tryz.ntmps97
  go_wp2_with (first | (go_at_call 31; refine (within_is _ _ _ _).mono ?_; rintro e w' ⟨rfl, hw'⟩; have hw' := hw'.symm; subst hw'))
  go_ret
  exact ⟨rfl, rfl⟩

/-- isBerths: whether a cabin may have so many; the world is as it was. -/
theorem berths_is (x : Int) (w : World) :
    Calls Tryz.prog 98 #[.int .i64 x] w fun e w' => e = .returned (.bool (decide (In x 1 4))) ∧ w' = w := by
  go_enter Tryz.func98, Tryz.ntmps98
  go_wp2_with (first | (go_at_call 31; refine (within_is _ _ _ _).mono ?_; rintro e w' ⟨rfl, hw'⟩; have hw' := hw'.symm; subst hw'))
  go_ret
  exact ⟨rfl, rfl⟩

end Go.Proofs.YtfallpinmhbemaaGreatDoor
