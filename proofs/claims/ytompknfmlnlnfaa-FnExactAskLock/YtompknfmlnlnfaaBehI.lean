/-
  OWN TEXT: the contract of impl.queue.behindFirst.
-/
import Derived.Test.YtompknfmlnlnfaaCopyI
namespace Go.Proofs.Ytompknfmlnlnfaa
open Go.RowKit

/-- A line without its first. -/
def tailLine (l : Line) : Line := ⟨l.n - 1, fun i => l.T (i + 1), fun i => l.S (i + 1)⟩
theorem asksTo_tail (l : Line) (h : 0 < l.n) : asksTo l l.n = (l.T 0, l.S 0) :: asksTo (tailLine l) (tailLine l).n := by
  obtain ⟨n, hn⟩ : ∃ n, l.n = n + 1 := ⟨l.n - 1, by omega⟩
  have e : (tailLine l).n = n := by show l.n - 1 = n; omega
  rw [e, hn]
  unfold asksTo
  rw [List.range_succ_eq_map, List.map_cons, List.map_map]
  rfl
theorem lineAt_tail {w : World} {b off : Nat} {l : Line} (h : LineAt w (some ⟨b, off, none⟩) l) : LineAt w (some ⟨b, off + 2, none⟩) (tailLine l) := by
  intro k hk
  have hk' : k < l.n - 1 := hk
  obtain ⟨b', off', e, h1, h2⟩ := h (k + 1) (by omega)
  simp only [Option.some.injEq, Addr.mk.injEq, and_true] at e
  obtain ⟨rfl, rfl⟩ := e
  refine ⟨b, off + 2, rfl, ?_, ?_⟩
  · rw [show off + 2 + k * 2 = off + (k + 1) * 2 by omega]; exact h1
  · rw [show off + 2 + k * 2 + 1 = off + (k + 1) * 2 + 1 by omega]; exact h2

set_option maxHeartbeats 800000 in
theorem behindFirst_any (b off n c : Nat) (l : Line) (w : World) (e1 : l.n = n) (h0 : 0 < n) (hn : n ≤ 1048576) (hc : n ≤ c) (hc2 : c ≤ 9223372036854775807) (hx : LineAt w (some ⟨b, off, none⟩) l) :
    Calls Try.prog 69 #[.slice (some ⟨b, off, none⟩) n c] w fun e w' => ∃ off', e = .returned (.slice (some ⟨b, off', none⟩) (n - 1) (n - 1)) ∧ w' = w ∧ LineAt w (some ⟨b, off', none⟩) (tailLine l) := by
  obtain ⟨j0, ji, jz0, jz1, jz2⟩ := info_parts Try.infoAsked
  have HT : Hid (LineAt w (some ⟨b, off + 2, none⟩) (tailLine l)) := lineAt_tail hx
  have HE : Hid (n = 1 → ∀ a, LineAt w a (tailLine l)) := fun h a k hk => by have : k < l.n - 1 := hk; omega
  clear hx e1
  have i1 : (1 : Int) ≤ (n : Int) := by omega
  have i2 : (n : Int) ≤ (c : Int) := by omega
  have i3 : (0 : Int) ≤ (n : Int) := by omega
  go_enter Try.func69, Try.ntmps69
  by_cases h1 : n = 1
  · subst h1
    go_wp2
    (try rw [Exit.noGoto_ret])
    go_ret
    exact ⟨_, rfl, rfl, HE.out trivial _⟩
  · go_wp2
    (try rw [Exit.noGoto_ret])
    go_ret
    exact ⟨_, rfl, rfl, HT.out⟩

end Go.Proofs.Ytompknfmlnlnfaa
