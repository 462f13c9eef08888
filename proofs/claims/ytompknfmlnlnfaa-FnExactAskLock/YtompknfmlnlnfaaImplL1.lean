/-
  OWN TEXT: contracts of the program's small functions over locks: isTask, isKey, mayHold, goodHeld, goodQueue.
-/
import Derived.Test.YtompknfmlnlnfaaKitM
import Derived.Deep.LoopGhost
import Derived.Deep.DeepCutAuto
namespace Go.Proofs.Ytompknfmlnlnfaa
open Go.RowKit

def isKeyI (x : Int) : Prop := 0 ≤ x ∧ x ≤ 100000

theorem isTask_yes (x : Int) (w : World) (h : isTask x) : Calls Try.prog 30 #[.int .i64 x] w fun e w' => e = .returned (.bool true) ∧ w' = w := by
  obtain ⟨h1, h2⟩ := h
  have e1 : decide (0 ≤ x) = true := by simpa using h1
  have e2 : decide (x < 12) = true := by simp; omega
  go_enter Try.func30, Try.ntmps30
  go_wp2
  go_ret
  exact ⟨rfl, rfl⟩
theorem isTask_no (x : Int) (w : World) (h : ¬ isTask x) : Calls Try.prog 30 #[.int .i64 x] w fun e w' => e = .returned (.bool false) ∧ w' = w := by
  by_cases h1 : 0 ≤ x
  · have e1 : decide (0 ≤ x) = true := by simpa using h1
    have e2 : decide (x < 12) = false := by simp; exact Int.not_lt.1 (fun h2 => h ⟨h1, by omega⟩)
    clear h
    go_enter Try.func30, Try.ntmps30
    go_wp2
    go_ret
    exact ⟨rfl, rfl⟩
  · have e1 : decide (0 ≤ x) = false := by simpa using h1
    clear h
    go_enter Try.func30, Try.ntmps30
    go_wp2
    go_ret
    exact ⟨rfl, rfl⟩
theorem isKey_yes (x : Int) (w : World) (h : isKeyI x) : Calls Try.prog 31 #[.int .i64 x] w fun e w' => e = .returned (.bool true) ∧ w' = w := by
  obtain ⟨h1, h2⟩ := h
  have e1 : decide (0 ≤ x) = true := by simpa using h1
  have e2 : decide (x ≤ 100000) = true := by simpa using h2
  go_enter Try.func31, Try.ntmps31
  go_wp2
  go_ret
  exact ⟨rfl, rfl⟩
theorem isKey_no (x : Int) (w : World) (h : ¬ isKeyI x) : Calls Try.prog 31 #[.int .i64 x] w fun e w' => e = .returned (.bool false) ∧ w' = w := by
  by_cases h1 : 0 ≤ x
  · have e1 : decide (0 ≤ x) = true := by simpa using h1
    have e2 : decide (x ≤ 100000) = false := by simp; exact Int.not_le.1 (fun h2 => h ⟨h1, h2⟩)
    clear h
    go_enter Try.func31, Try.ntmps31
    go_wp2
    go_ret
    exact ⟨rfl, rfl⟩
  · have e1 : decide (0 ≤ x) = false := by simpa using h1
    clear h
    go_enter Try.func31, Try.ntmps31
    go_wp2
    go_ret
    exact ⟨rfl, rfl⟩

set_option maxHeartbeats 400000 in
theorem mayHold_any (ao : Option Addr) (n c : Nat) (l : Line) (x : Int) (s : Bool) (w : World) (hl : l.n = n) (hz : LineAt w ao l) :
    Calls Try.prog 63 #[.slice ao n c, .agg #[.int .i64 x, .bool s]] w fun e w' => e = .returned (.bool (mayB l s)) ∧ Below w.heap.size w w' := by
  by_cases h0 : n = 0
  · subst h0
    have HM : Hid (mayB l s = true) := by simp [Hid, mayB, hl]
    rw [HM.out]
    clear hl
    go_enter Try.func63, Try.ntmps63
    go_wp2
    go_ret
    exact ⟨rfl, push (Below.refl _ _) _⟩
  · obtain ⟨b, off, rfl, h1, h2⟩ := hz 0 (by omega)
    have HM : Hid (mayB l s = (l.S 0 && s)) := by simp [Hid, mayB, hl, h0]
    rw [HM.out]
    clear hl
    have hb := World.block_lt_of_cell? w _ h1
    have e0 : ((n : Int) == 0) = false := by simpa using (show ¬ (n : Int) = 0 by omega)
    have e1 : (0 : Int) < (n : Int) := by omega
    have c1 : (w.alloc (.cells #[.int .i64 x, .bool s] 65)).cell? ⟨b, off + 1, none⟩ = some (.bool (l.S 0)) := by
      rw [show off + 1 = off + 0 * 2 + 1 by omega]
      exact ((push (Below.refl _ w) _).cell (p := ⟨b, off + 0 * 2 + 1, none⟩) hb).trans h2
    simp only [Nat.zero_mul, Nat.add_zero] at h1 h2
    cases hs : l.S 0 with
    | true =>
      rw [hs] at c1 h2
      go_enter Try.func63, Try.ntmps63
      go_wp2
      go_ret
      exact ⟨rfl, push (Below.refl _ _) _⟩
    | false =>
      rw [hs] at c1 h2
      go_enter Try.func63, Try.ntmps63
      go_wp2
      go_ret
      exact ⟨rfl, push (Below.refl _ _) _⟩

/-- Place k of those that hold, as the program tests it. -/
def heldAt (h : Line) (k : Nat) : Prop := isTask (h.T k) ∧ (0 < k → h.T (k - 1) < h.T k) ∧ (h.S k = true ∨ h.n ≤ 1)
theorem heldI_iff (h : Line) : heldI h ↔ 0 < h.n ∧ ∀ k, k < h.n → heldAt h k := Iff.rfl

set_option maxHeartbeats 1600000 in
set_option maxRecDepth 100000 in
theorem goodHeld_any (ao : Option Addr) (n c : Nat) (l : Line) (w : World) (hl : l.n = n) (hn : n ≤ 1048576) (hz : LineAt w ao l) :
    Calls Try.prog 46 #[.slice ao n c] w fun e w' => SaysIf (heldI l) e ∧ Below w.heap.size w w' := by
  have HL : Hid (l.n = n) := hl
  clear hl
  by_cases h0 : n = 0
  · subst h0
    go_enter Try.func46, Try.ntmps46
    go_wp2
    go_ret
    exact ⟨says_no (fun h => by have := h.1; have := HL.out; omega), Below.refl _ _⟩
  · obtain ⟨b, off, rfl, h1, _⟩ := hz 0 (by rw [HL.out]; omega)
    have hbw := World.block_lt_of_cell? w _ h1
    clear h1
    have hz' : ∀ k, k < n → w.cell? ⟨b, off + k * 2, none⟩ = some (.int .i64 (l.T k)) ∧ w.cell? ⟨b, off + k * 2 + 1, none⟩ = some (.bool (l.S k)) := by
      intro k hk
      obtain ⟨b', off', e, g1, g2⟩ := hz k (by rw [HL.out]; omega)
      simp only [Option.some.injEq, Addr.mk.injEq, and_true] at e
      obtain ⟨rfl, rfl⟩ := e
      exact ⟨g1, g2⟩
    have HZ : Hid (∀ k, k < n → w.cell? ⟨b, off + k * 2, none⟩ = some (.int .i64 (l.T k)) ∧ w.cell? ⟨b, off + k * 2 + 1, none⟩ = some (.bool (l.S k))) := hz'
    clear hz hz'
    have e0 : ((n : Int) == 0) = false := by simpa using (show ¬ (n : Int) = 0 by omega)
    go_enter Try.func46, Try.ntmps46
    go_wp2
    go_loopg [10] n (fun g i wr => ∃ k : Nat, k ≤ n ∧ g = n - k ∧ i = .int .i64 k ∧ (∀ i, i < k → heldAt l i) ∧ Below w.heap.size w wr)
    case atStart => exact ⟨0, Nat.zero_le _, rfl, rfl, fun i hi => by omega, Below.refl _ _⟩
    case round =>
      obtain ⟨k, hk, rfl, rfl, hall, hbel⟩ := hrel
      have HA : Hid (∀ i, i < k → heldAt l i) := hall
      clear hall
      by_cases hlt : k < n
      · have c1 := (hbel.cell (p := ⟨b, off + k * 2, none⟩) hbw).trans (HZ.out k hlt).1
        have c2 := (hbel.cell (p := ⟨b, off + k * 2 + 1, none⟩) hbw).trans (HZ.out k hlt).2
        go_upto_region 6 with fail
        go_cut [10, 33] (fun i c wx => i = .int .i64 k ∧ Tells (isTask (l.T k) ∧ (0 < k → l.T (k - 1) < l.T k)) c ∧ wx.heap[wr.heap.size]? = some (.cells #[.int .i64 (l.T k), .bool (l.S k)] 65 (0, 0)) ∧ Below wr.heap.size wr wx)
        case first =>
          by_cases ht : isTask (l.T k)
          · by_cases k0 : k = 0
            · subst k0
              go_quiet (first | (go_at_call 30; refine Calls.quiet_of_same (isTask_yes _ _ ht)))
              go_wp2
              go_meet
              exact ⟨rfl, tells_good ⟨ht, fun h => by omega⟩, heap_alloc_new wr _, below_drewN (push (Below.refl _ _) _) _⟩
            · have hk1 : (0 : Int) < (k : Int) := by omega
              have d1 : decide (0 < k) = true := by simp; omega
              have hk2 : ((k : Int) - 1).toNat = k - 1 := by omega
              have hk3 : (k : Int) - 1 < (n : Int) := by omega
              have hk4 : (0 : Int) ≤ (k : Int) - 1 := by omega
              have hk5 : IntKind.i64.wrap ((k : Int) - 1) = (k : Int) - 1 := by rw [IntKind.wrap_i64]; omega
              have p1 := ((push hbel (.cells #[.int .i64 (l.T k), .bool (l.S k)] 65)).cell (p := ⟨b, off + (k - 1) * 2, none⟩) hbw).trans (HZ.out (k - 1) (by omega)).1
              by_cases hle : l.T k ≤ l.T (k - 1)
              · have d2 : decide (l.T k ≤ l.T (k - 1)) = true := by simpa using hle
                go_quiet (first | (go_at_call 30; refine Calls.quiet_of_same (isTask_yes _ _ ht)))
                go_wp2
                go_meet
                exact ⟨rfl, tells_bad (fun h => by have := h.2 (by omega); omega), heap_alloc_new wr _, below_drewN (push (Below.refl _ _) _) _⟩
              · have d2 : decide (l.T k ≤ l.T (k - 1)) = false := by simpa using hle
                go_quiet (first | (go_at_call 30; refine Calls.quiet_of_same (isTask_yes _ _ ht)))
                go_wp2
                go_meet
                exact ⟨rfl, tells_good ⟨ht, fun _ => by omega⟩, heap_alloc_new wr _, below_drewN (push (Below.refl _ _) _) _⟩
          · go_quiet (first | (go_at_call 30; refine Calls.quiet_of_same (isTask_no _ _ ht)))
            go_wp2
            go_meet
            exact ⟨rfl, tells_bad (fun h => ht h.1), heap_alloc_new wr _, below_drewN (push (Below.refl _ _) _) _⟩
        case rest =>
          obtain ⟨rfl, ⟨t, rfl, ht⟩, hbox, hbx⟩ := hcut
          have HT : Hid (t = false ↔ isTask (l.T k) ∧ (0 < k → l.T (k - 1) < l.T k)) := ht
          clear ht
          have hbel2 := after hbel hbx
          clear hbx c1 c2
          have q1 := blk_cell hbox 1 _ rfl
          cases t with
          | true =>
            go_wp2
            go_ret
            exact ⟨says_no (fun h => by have := HT.out.2 ⟨(h.2 k (by rw [HL.out]; exact hlt)).1, (h.2 k (by rw [HL.out]; exact hlt)).2.1⟩; cases this), hbel2⟩
          | false =>
            have HK := HT.out.1 rfl
            have HK : Hid (isTask (l.T k) ∧ (0 < k → l.T (k - 1) < l.T k)) := HK
            cases hs : l.S k with
            | true =>
              rw [hs] at q1
              go_wp2
              go_roundg (n - (k + 1))
              case measure => omega
              case rel => exact ⟨k + 1, by omega, rfl, by go_num, fun i hi => by
                by_cases e : i = k
                · subst e; exact ⟨HK.out.1, HK.out.2, .inl hs⟩
                · exact HA.out i (by omega), hbel2⟩
            | false =>
              rw [hs] at q1
              by_cases h1 : n ≤ 1
              · have d1 : decide (1 < n) = false := by simp; omega
                go_wp2
                go_roundg (n - (k + 1))
                case measure => omega
                case rel => exact ⟨k + 1, by omega, rfl, by go_num, fun i hi => by
                  by_cases e : i = k
                  · subst e; exact ⟨HK.out.1, HK.out.2, .inr (by rw [HL.out]; exact h1)⟩
                  · exact HA.out i (by omega), hbel2⟩
              · have d1 : decide (1 < n) = true := by simp; omega
                go_wp2
                go_ret
                exact ⟨says_no (fun h => by
                  rcases (h.2 k (by rw [HL.out]; exact hlt)).2.2 with e | e
                  · rw [hs] at e; cases e
                  · rw [HL.out] at e; omega), hbel2⟩
      · obtain rfl : k = n := by omega
        go_wp2
        go_ret
        exact ⟨says_yes ⟨by rw [HL.out]; omega, fun i hi => HA.out i (by rw [HL.out] at hi; exact hi)⟩, hbel⟩

end Go.Proofs.Ytompknfmlnlnfaa
