/-
  OWN TEXT (first part): contracts of spec.l2Waits, spec.WaitsAt, impl.placeInQueue, impl.WaitsAt.
-/
import Derived.Test.YtompknfmlnlnfaaSpecL2
import Derived.Test.YtompknfmlnlnfaaImplL2
namespace Go.Proofs.Ytompknfmlnlnfaa
open Go.RowKit

/-- x waits at lock i, and at none before it. -/
def waitsIn (N : Nat) (Q : Nat → Line) (x : Int) (i : Nat) : Prop := i < N ∧ inLine (Q i) x ∧ ∀ i', i' < i → ¬ inLine (Q i') x
theorem waitsIn_one {N : Nat} {Q : Nat → Line} {x : Int} {i j : Nat} (h : waitsIn N Q x i) (h' : waitsIn N Q x j) : i = j := by
  rcases Nat.lt_trichotomy i j with e | e | e
  · exact absurd h.2.1 (h'.2.2 i e)
  · exact e
  · exact absurd h'.2.1 (h.2.2 j e)
def noWait (N : Nat) (Q : Nat → Line) (x : Int) : Prop := ∀ i, i < N → ¬ inLine (Q i) x
theorem noWait_not {N : Nat} {Q : Nat → Line} {x : Int} {i : Nat} (h : noWait N Q x) : ¬ waitsIn N Q x i := fun h' => h i h'.1 h'.2.1
theorem firstAt_one {l : Line} {x : Int} {i j : Nat} (h : firstAt l x i) (h' : firstAt l x j) : i = j := by
  rcases Nat.lt_trichotomy i j with e | e | e
  · exact absurd h.2.1 (h'.2.2 i e)
  · exact e
  · exact absurd h'.2.1 (h.2.2 j e)

/-- What l2Waits answers. -/
def LockOf (N : Nat) (Q : Nat → Line) (x : Int) (e : Ending) : Prop := (∃ i : Nat, waitsIn N Q x i ∧ e = .returned (.int .i64 i)) ∨ (noWait N Q x ∧ e = .returned (.int .i64 (-1)))

set_option maxHeartbeats 800000 in
set_option maxRecDepth 100000 in
theorem l2Waits_any (ao : Option Addr) (N c : Nat) (K : Nat → Int) (H Q : Nat → Line) (x : Int) (w : World) (hN : N ≤ 1048576) (hs : ShortTo N H Q 1048576) (hx : LocksAt w ao N K H Q) :
    Calls Try.prog 40 #[.slice ao N c, .int .i64 x] w fun e w' => LockOf N Q x e ∧ Below w.heap.size w w' := by
  have HS : Hid (ShortTo N H Q 1048576) := hs
  clear hs
  go_enter Try.func40, Try.ntmps40
  go_wp2
  go_loopw [9] (fun i wr => ∃ k : Nat, k ≤ N ∧ i = .int .i64 k ∧ (∀ j, j < k → ¬ inLine (Q j) x) ∧ Below w.heap.size w wr) (fun i _ => N - (intOf i).toNat)
  case atStart => exact ⟨0, Nat.zero_le _, rfl, fun j hj => by omega, Below.refl _ _⟩
  case round =>
    obtain ⟨k, hk, rfl, hpre, hbel⟩ := hrel
    have HP : Hid (∀ j, j < k → ¬ inLine (Q j) x) := hpre
    clear hpre
    by_cases hlt : k < N
    · obtain ⟨b, off, ha, hc, qa, qc, rfl, h1, h2, h3, l1, l2, _, _⟩ := hx k hlt
      have hb := World.block_lt_of_cell? w _ h1
      have d1 := (hbel.cell (p := ⟨b, off + k * 3, none⟩) hb).trans h1
      have d2 := (hbel.cell (p := ⟨b, off + k * 3 + 1, none⟩) hb).trans h2
      have d3 := (hbel.cell (p := ⟨b, off + k * 3 + 2, none⟩) hb).trans h3
      have s2 := (HS.out k hlt).2
      have l2' := l2.below (push hbel (.cells #[.int .i64 (K k), .slice ha (H k).n hc, .slice qa (Q k).n qc] 68))
      clear h1 h2 h3
      by_cases hin : inLine (Q k) x
      · have HI : Hid (inLine (Q k) x) := hin
        clear hin
        go_wp2_with (first | (go_at_call 41; refine (l2In_yes _ _ _ (Q k) _ _ rfl s2 l2' HI.out).mono ?_; rintro e w2 ⟨r, rfl, _, hb2⟩))
        go_ret
        exact ⟨.inl ⟨k, ⟨hlt, HI.out, HP.out⟩, rfl⟩, after (push hbel _) hb2⟩
      · have HI : Hid (¬ inLine (Q k) x) := hin
        clear hin
        go_wp2_with (first | (go_at_call 41; refine (l2In_no _ _ _ (Q k) _ _ rfl s2 l2' HI.out).mono ?_; rintro e w2 ⟨rfl, hb2⟩))
        go_roundw
        case rel => exact ⟨k + 1, by omega, by go_num, fun j hj => by
          by_cases e : j = k
          · subst e; exact HI.out
          · exact HP.out j (by omega), after (push hbel _) hb2⟩
        case measure => simp [intOf]; omega
    · obtain rfl : k = N := by omega
      go_wp2
      go_ret
      exact ⟨.inr ⟨HP.out, rfl⟩, hbel⟩

/-- What placeInQueue answers. -/
def PlaceOf (N : Nat) (Q : Nat → Line) (x : Int) (e : Ending) : Prop :=
  (∃ i j : Nat, waitsIn N Q x i ∧ firstAt (Q i) x j ∧ e = .returned (.tuple #[.int .i64 i, .int .i64 j, .bool true])) ∨ (noWait N Q x ∧ e = .returned (.tuple #[.int .i64 0, .int .i64 0, .bool false]))

set_option maxHeartbeats 800000 in
set_option maxRecDepth 100000 in
theorem placeInQueue_any (ao : Option Addr) (N c : Nat) (K : Nat → Int) (H Q : Nat → Line) (x : Int) (w : World) (hN : N ≤ 1048576) (hs : ShortTo N H Q 1048576) (hx : LocksAt w ao N K H Q) :
    Calls Try.prog 44 #[.slice ao N c, .int .i64 x] w fun e w' => PlaceOf N Q x e ∧ Below w.heap.size w w' := by
  have HS : Hid (ShortTo N H Q 1048576) := hs
  clear hs
  go_enter Try.func44, Try.ntmps44
  go_wp2
  go_loopw [13] (fun i wr => ∃ k : Nat, k ≤ N ∧ i = .int .i64 k ∧ (∀ j, j < k → ¬ inLine (Q j) x) ∧ Below w.heap.size w wr) (fun i _ => N - (intOf i).toNat)
  case atStart => exact ⟨0, Nat.zero_le _, rfl, fun j hj => by omega, Below.refl _ _⟩
  case round =>
    obtain ⟨k, hk, rfl, hpre, hbel⟩ := hrel
    have HP : Hid (∀ j, j < k → ¬ inLine (Q j) x) := hpre
    clear hpre
    by_cases hlt : k < N
    · obtain ⟨b, off, ha, hc, qa, qc, rfl, h1, h2, h3, l1, l2, _, _⟩ := hx k hlt
      have hb := World.block_lt_of_cell? w _ h1
      have d1 := (hbel.cell (p := ⟨b, off + k * 3, none⟩) hb).trans h1
      have d2 := (hbel.cell (p := ⟨b, off + k * 3 + 1, none⟩) hb).trans h2
      have d3 := (hbel.cell (p := ⟨b, off + k * 3 + 2, none⟩) hb).trans h3
      have s2 := (HS.out k hlt).2
      have hbel0 := push hbel (.cells #[.int .i64 (K k), .slice ha (H k).n hc, .slice qa (Q k).n qc] 68)
      clear h1 h2 h3
      go_wp2
      go_loopw [21] (fun i wr2 => ∃ p : Nat, p ≤ (Q k).n ∧ i = .int .i64 p ∧ (∀ t, t < p → (Q k).T t ≠ x) ∧ Below w.heap.size w wr2) (fun i _ => (Q k).n - (intOf i).toNat)
      case atStart => exact ⟨0, Nat.zero_le _, rfl, fun i hi => by omega, hbel0⟩
      case round =>
        clear hbel0 hbel d1 d2 d3
        obtain ⟨p, hp, rfl, hpre, hbel⟩ := hrel
        have HT : Hid (∀ t, t < p → (Q k).T t ≠ x) := hpre
        clear hpre
        by_cases hlp : p < (Q k).n
        · obtain ⟨b2, off2, rfl, g1, g2⟩ := l2 p hlp
          have hb2 := World.block_lt_of_cell? w _ g1
          have t1 := (hbel.cell (p := ⟨b2, off2 + p * 2, none⟩) hb2).trans g1
          have t2 := (hbel.cell (p := ⟨b2, off2 + p * 2 + 1, none⟩) hb2).trans g2
          clear g1 g2
          by_cases he : (Q k).T p = x
          · have HE : Hid ((Q k).T p = x) := he
            have hne : ((Q k).T p == x) = true := by simpa using he
            clear he
            go_wp2
            exact bodyPost_ret (v := .tuple #[.int .i64 k, .int .i64 p, .bool true]) (by simp [results, Try.results44, go_sem]) rfl ⟨.inl ⟨k, p, ⟨hlt, ⟨p, hlp, HE.out⟩, HP.out⟩, ⟨hlp, HE.out, HT.out⟩, rfl⟩, push hbel _⟩
          · have HE : Hid ((Q k).T p ≠ x) := he
            have hne : ((Q k).T p == x) = false := by simpa using he
            clear he
            go_wp2
            go_roundw
            case rel => exact ⟨p + 1, by omega, by go_num, fun t ht => by
              by_cases e : t = p
              · subst e; exact HE.out
              · exact HT.out t (by omega), push hbel _⟩
            case measure => simp [intOf]; omega
        · obtain rfl : p = (Q k).n := by omega
          go_wp2
          go_roundw
          case rel => exact ⟨k + 1, by omega, by go_num, fun j hj => by
            by_cases e : j = k
            · subst e; rintro ⟨t, ht, et⟩; exact HT.out t ht et
            · exact HP.out j (by omega), hbel⟩
          case measure => simp [intOf]; omega
    · obtain rfl : k = N := by omega
      go_wp2
      exact bodyPost_ret (v := .tuple #[.int .i64 0, .int .i64 0, .bool false]) (by simp [results, Try.results44, go_sem]) rfl ⟨.inr ⟨HP.out, rfl⟩, hbel⟩

end Go.Proofs.Ytompknfmlnlnfaa
