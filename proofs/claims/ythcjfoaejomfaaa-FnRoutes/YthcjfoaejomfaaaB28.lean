/-
  OWN TEXT: FitS0, PlainQ.
-/
import Derived.Test.YthcjfoaejomfaaaB27
import Derived.Test.YthcjfoaejomfaaaB14
import Derived.Test.YthcjfoaejomfaaaB15
namespace Go.Proofs.Ythcjfoaejomfaaa
open Go.RowKit

set_option maxHeartbeats 800000 in
set_option maxRecDepth 100000 in
theorem l3At_any (ao : Option Addr) (N c : Nat) (S : Nat → Sail) (x : Int) (w : World) (hN : N ≤ 1048576) (hx : SailsAt w ao N S) :
    Calls Try.prog 22 #[.slice ao N c, .int .i64 x] w fun e w' => ((findIx S x N < N ∧ e = .returned (.int .i64 (findIx S x N))) ∨ (findIx S x N = N ∧ e = .returned (.int .i64 (-1)))) ∧ Below w.heap.size w w' := by
  go_enter Try.func22, Try.ntmps22
  go_wp2
  go_loopw [5, 6, 9] (fun _ _ i wr => ∃ k : Nat, k ≤ N ∧ i = .int .i64 k ∧ (∀ j, j < k → (S j).id ≠ x) ∧ Below w.heap.size w wr) (fun _ _ i _ => N - (intOf i).toNat)
  case atStart => exact ⟨0, Nat.zero_le _, rfl, fun j hj => by omega, Below.refl _ _⟩
  case round =>
    obtain ⟨k, hk, rfl, hall, hbel⟩ := hrel
    have HA : Hid (∀ j, j < k → (S j).id ≠ x) := hall
    clear hall
    by_cases hlt : k < N
    · obtain ⟨b, off, la, lc, ca, cc, rfl, h0, h1, h2, h3, h4, h5, h6, h7, _, _, _, _⟩ := hx k hlt
      have hb := World.block_lt_of_cell? w _ h1
      have c0 := (hbel.cell (p := ⟨b, off + k * 8, none⟩) hb).trans h0
      have c1 := (hbel.cell (p := ⟨b, off + k * 8 + 1, none⟩) hb).trans h1
      have c2 := (hbel.cell (p := ⟨b, off + k * 8 + 2, none⟩) hb).trans h2
      have c3 := (hbel.cell (p := ⟨b, off + k * 8 + 3, none⟩) hb).trans h3
      have c4 := (hbel.cell (p := ⟨b, off + k * 8 + 4, none⟩) hb).trans h4
      have c5 := (hbel.cell (p := ⟨b, off + k * 8 + 5, none⟩) hb).trans h5
      have c6 := (hbel.cell (p := ⟨b, off + k * 8 + 6, none⟩) hb).trans h6
      have c7 := (hbel.cell (p := ⟨b, off + k * 8 + 7, none⟩) hb).trans h7
      clear h0 h1 h2 h3 h4 h5 h6 h7
      by_cases he : (S k).id = x
      · have e1 : ((S k).id == x) = true := by simpa using he
        have HF : Hid (findIx S x N = k) := findIx_is hlt he HA.out
        clear he
        go_wp2
        go_ret
        exact ⟨.inl ⟨by rw [HF.out]; exact hlt, by rw [HF.out]; rfl⟩, push hbel _⟩
      · have e1 : ((S k).id == x) = false := by simpa using he
        have HE : Hid ((S k).id ≠ x) := he
        clear he
        go_wp2
        go_roundw
        case rel => exact ⟨k + 1, by omega, by go_num, fun j hj => by
          by_cases e : j = k
          · subst e; exact HE.out
          · exact HA.out j (by omega), push hbel _⟩
        case measure => simp [intOf]; omega
    · obtain rfl : k = N := by omega
      have HF : Hid (findIx S x k = k) := findIx_none HA.out
      go_wp2
      go_ret
      exact ⟨.inr ⟨HF.out, rfl⟩, hbel⟩

set_option maxHeartbeats 3200000 in
set_option maxRecDepth 100000 in
theorem l3Fit_any (ao bo : Option Addr) (N n c c' : Nat) (S : Nat → Sail) (G : Nat → Int) (w : World) (hN : N ≤ 1048576) (hn : n ≤ 1048576) (hx : SailsAt w ao N S) (hy : IntsAt w bo n G) :
    Calls Try.prog 21 #[.slice ao N c, .slice bo n c'] w fun e w' => SaysIf (LegsOk N S n G) e ∧ Below w.heap.size w w' := by
  by_cases g3 : In (n : Int) 1 3
  case neg =>
    have d3 : decide (In (n : Int) 1 3) = false := decide_eq_false g3
    have HN : Hid (¬ LegsOk N S n G) := fun h => g3 ⟨by have := h.1; omega, by have := h.2.1; omega⟩
    clear g3
    go_enter Try.func21, Try.ntmps21
    go_wp2_with (first | (go_at_call 20; refine (l1In_is _ _ _ _).mono ?_; rintro e w' ⟨rfl, hw'⟩; have hw' := hw'.symm; subst hw'))
    go_ret
    exact ⟨says_no HN.out, Below.refl _ _⟩
  have d3 : decide (In (n : Int) 1 3) = true := decide_eq_true g3
  have H3 : Hid (1 ≤ n ∧ n ≤ 3) := ⟨by have := g3.1; omega, by have := g3.2; omega⟩
  have hn3 : n ≤ 3 := H3.out.2
  clear g3
  go_enter Try.func21, Try.ntmps21
  go_wp2_with (first | (go_at_call 20; refine (l1In_is _ _ _ _).mono ?_; rintro e w' ⟨rfl, hw'⟩; have hw' := hw'.symm; subst hw'))
  go_loopw [5, 6, 7, 8, 15] (fun _ _ _ _ i wr => ∃ k : Nat, k ≤ n ∧ i = .int .i64 k ∧ (∀ j, j < k → LegOk N S G j) ∧ Below w.heap.size w wr) (fun _ _ _ _ i _ => n - (intOf i).toNat)
  case atStart => exact ⟨0, Nat.zero_le _, rfl, fun j hj => by omega, Below.refl _ _⟩
  case round =>
    obtain ⟨k, hk, rfl, hall, hbel⟩ := hrel
    have HA : Hid (∀ j, j < k → LegOk N S G j) := hall
    clear hall d3
    by_cases hlt : k < n
    · have HQ : Hid (0 < k → ∀ b off, bo = some ⟨b, off, none⟩ → w.cell? ⟨b, off + (k - 1), none⟩ = some (.int .i64 (G (k - 1)))) := by
        intro h b off e
        obtain ⟨b', off', e', g⟩ := hy (k - 1) (by omega)
        rw [e] at e'
        simp only [Option.some.injEq, Addr.mk.injEq, and_true] at e'
        obtain ⟨rfl, rfl⟩ := e'
        exact g
      obtain ⟨qb, qoff, rfl, hq⟩ := hy k hlt
      have HQ2 : Hid (0 < k → w.cell? ⟨qb, qoff + (k - 1), none⟩ = some (.int .i64 (G (k - 1)))) := fun h => HQ.out h qb qoff rfl
      clear HQ
      have hqb := World.block_lt_of_cell? w _ hq
      have p0 := (hbel.cell (p := ⟨qb, qoff + k, none⟩) hqb).trans hq
      clear hq
      go_wp2_with fail
      refine (l3At_any ao N c S (G k) _ hN (hx.below hbel)).mono ?_
      rintro e w2 ⟨hr, hb2⟩
      have hbel2 := after hbel hb2
      clear hb2 hbel p0
      rcases hr with ⟨hf, rfl⟩ | ⟨hf, rfl⟩
      · obtain ⟨x, hxx⟩ : ∃ x, x = findIx S (G k) N := ⟨_, rfl⟩
        rw [← hxx] at hf ⊢
        have HX : Hid (x = findIx S (G k) N) := hxx
        clear hxx
        by_cases k0 : k = 0
        · subst k0
          have dn : decide ((x : Int) < 0) = false := by simp
          go_wp2
          go_roundw
          case rel => exact ⟨1, by omega, by go_num, fun j hj => by
            obtain rfl : j = 0 := by omega
            exact ⟨by rw [← HX.out]; exact hf, fun h => by omega⟩, hbel2⟩
          case measure => simp [intOf]; omega
        · have dn : decide ((x : Int) < 0) = false := by simp
          have d0 : decide (0 < k) = true := by simp; omega
          have hk2 : ((k : Int) - 1).toNat = k - 1 := by omega
          have hk3 : (k : Int) - 1 < (n : Int) := by omega
          have hk4 : (0 : Int) ≤ (k : Int) - 1 := by omega
          have hk5 : IntKind.i64.wrap ((k : Int) - 1) = (k : Int) - 1 := by rw [IntKind.wrap_i64]; omega
          have y0 := (hbel2.cell (p := ⟨qb, qoff + (k - 1), none⟩) hqb).trans (HQ2.out (by omega))
          go_wp2_with fail
          refine (l3At_any ao N c S (G (k - 1)) _ hN (hx.below hbel2)).mono ?_
          rintro e w3 ⟨hr, hb3⟩
          have hbel3 := after hbel2 hb3
          have HP : Hid (findIx S (G (k - 1)) N < N) := (HA.out (k - 1) (by omega)).1
          clear hb3 hbel2 y0 dn d0
          rcases hr with ⟨hf2, rfl⟩ | ⟨hf2, rfl⟩
          · obtain ⟨y, hyy⟩ : ∃ y, y = findIx S (G (k - 1)) N := ⟨_, rfl⟩
            rw [← hyy] at hf2 ⊢
            have HY : Hid (y = findIx S (G (k - 1)) N) := hyy
            clear hyy
            have x1 : (x : Int) < (N : Int) := by omega
            have x0 : (0 : Int) ≤ (x : Int) := by omega
            have y1 : (y : Int) < (N : Int) := by omega
            have y0 : (0 : Int) ≤ (y : Int) := by omega
            have HXS := hx x hf
            obtain ⟨b, off, la, lc, ca, cc, rfl, h0, h1, h2, h3, h4, h5, h6, h7, _, _, _, _⟩ := hx y hf2
            obtain ⟨b', off', _, _, _, _, e', g0, g1, g2, g3, _⟩ := HXS
            simp only [Option.some.injEq, Addr.mk.injEq, and_true] at e'
            obtain ⟨rfl, rfl⟩ := e'
            have hb := World.block_lt_of_cell? w _ h1
            have c0 := (hbel3.cell (p := ⟨b, off + y * 8, none⟩) hb).trans h0
            have c1 := (hbel3.cell (p := ⟨b, off + y * 8 + 1, none⟩) hb).trans h1
            have c2 := (hbel3.cell (p := ⟨b, off + y * 8 + 2, none⟩) hb).trans h2
            have c3 := (hbel3.cell (p := ⟨b, off + y * 8 + 3, none⟩) hb).trans h3
            have c4 := (hbel3.cell (p := ⟨b, off + y * 8 + 4, none⟩) hb).trans h4
            have c5 := (hbel3.cell (p := ⟨b, off + y * 8 + 5, none⟩) hb).trans h5
            have c6 := (hbel3.cell (p := ⟨b, off + y * 8 + 6, none⟩) hb).trans h6
            have c7 := (hbel3.cell (p := ⟨b, off + y * 8 + 7, none⟩) hb).trans h7
            have hbx := push hbel3 (.cells #[.int .i64 (S y).id, .string (S y).fr, .string (S y).dst, .int .i64 (S y).dep, .int .i64 (S y).arr, .slice la (S y).la.n lc, .slice ca (S y).ca.n cc, .int .i64 (S y).most] 33)
            have q1 := (hbx.cell (p := ⟨b, off + x * 8 + 1, none⟩) hb).trans g1
            have q3 := (hbx.cell (p := ⟨b, off + x * 8 + 3, none⟩) hb).trans g3
            clear h0 h1 h2 h3 h4 h5 h6 h7 g0 g1 g2 g3
            have HOK : Hid (((S y).dst = (S x).fr ∧ (S y).arr ≤ (S x).dep) ↔ LegOk N S G k) := by
              unfold LegOk
              rw [← HX.out, ← HY.out]
              exact ⟨fun h => ⟨hf, fun _ => h⟩, fun h => h.2 (by omega)⟩
            by_cases m1 : (S y).dst = (S x).fr
            · have e1 : ((S y).dst.toList == (S x).fr.toList) = true := bytes_eq.2 m1
              have M1 : Hid ((S y).dst = (S x).fr) := m1
              clear m1
              by_cases m2 : (S y).arr ≤ (S x).dep
              · have e2 : decide ((S x).dep < (S y).arr) = false := by simpa using m2
                go_wp2
                go_quiet (fail)
                go_wp2
                go_roundw
                case rel => exact ⟨k + 1, by omega, by go_num, fun j hj => by
                  by_cases e : j = k
                  · subst e; exact HOK.out.1 ⟨M1.out, m2⟩
                  · exact HA.out j (by omega), below_drewN hbx _⟩
                case measure => simp [intOf]; omega
              · have e2 : decide ((S x).dep < (S y).arr) = true := by simpa using m2
                go_wp2
                go_quiet (fail)
                go_wp2
                go_ret
                exact ⟨says_no (fun h => by have := (HOK.out.2 (h.2.2 k hlt)).2; omega), below_drewN hbx _⟩
            · have e1 : ((S y).dst.toList == (S x).fr.toList) = false := bytes_ne.2 m1
              have M1 : Hid (¬ (S y).dst = (S x).fr) := m1
              clear m1
              go_wp2
              go_quiet (fail)
              go_wp2
              go_ret
              exact ⟨says_no (fun h => M1.out (HOK.out.2 (h.2.2 k hlt)).1), below_drewN hbx _⟩
          · exfalso
            have := HP.out
            omega
      · have dn : decide ((-1 : Int) < 0) = true := rfl
        have HF : Hid (findIx S (G k) N = N) := hf
        clear hf
        go_wp2
        go_ret
        exact ⟨says_no (fun h => by have := (h.2.2 k hlt).1; have := HF.out; omega), hbel2⟩
    · obtain rfl : k = n := by omega
      go_wp2
      go_ret
      exact ⟨says_yes ⟨H3.out.1, H3.out.2, HA.out⟩, hbel⟩

end Go.Proofs.Ythcjfoaejomfaaa

namespace Go.Proofs.Ythcjfoaejomfaaa
open Go.RowKit

section
variable {N : Nat} {S : Nat → Sail} {fr : ByteArray} {t0 : Int} {tt : ByteArray}
/-- The best of those that were seen. -/
def BestIn (S : Nat → Sail) (fr : ByteArray) (t0 : Int) (tt : ByteArray) (seen : List (List Nat)) : Option (List Nat) → Prop
  | none => ∀ q, q ∈ seen → placeOf S fr q ≠ tt
  | some p => p ∈ seen ∧ placeOf S fr p = tt ∧ ∀ q, q ∈ seen → placeOf S fr q = tt → ¬ Before S t0 q p
theorem bestIn_other {seen : List (List Nat)} {b : Option (List Nat)} {x : List Nat} (h : BestIn S fr t0 tt seen b) (hx : placeOf S fr x ≠ tt) : BestIn S fr t0 tt (seen ++ [x]) b := by
  cases b with
  | none =>
    intro q hq
    rcases List.mem_append.1 hq with hq | hq
    · exact h q hq
    · simp at hq; subst hq; exact hx
  | some p =>
    refine ⟨List.mem_append.2 (.inl h.1), h.2.1, fun q hq hp => ?_⟩
    rcases List.mem_append.1 hq with hq | hq
    · exact h.2.2 q hq hp
    · simp at hq; subst hq; exact absurd hp hx
theorem bestIn_first {seen : List (List Nat)} {x : List Nat} (h : BestIn S fr t0 tt seen none) (hx : placeOf S fr x = tt) : BestIn S fr t0 tt (seen ++ [x]) (some x) := by
  refine ⟨List.mem_append.2 (.inr (by simp)), hx, fun q hq hp => ?_⟩
  rcases List.mem_append.1 hq with hq | hq
  · exact absurd hp (h q hq)
  · simp at hq; subst hq; exact before_irrefl _
theorem bestIn_better {seen : List (List Nat)} {x p : List Nat} (h : BestIn S fr t0 tt seen (some p)) (hx : placeOf S fr x = tt) (ht : timeOf S t0 x < timeOf S t0 p) : BestIn S fr t0 tt (seen ++ [x]) (some x) := by
  refine ⟨List.mem_append.2 (.inr (by simp)), hx, fun q hq hp hb => ?_⟩
  rcases List.mem_append.1 hq with hq | hq
  · exact h.2.2 q hq hp (before_trans hb (.inl ht))
  · simp at hq; subst hq; exact before_irrefl _ hb
/-- Ahead in the order in which they are gone through. -/
def Ahead (q x : List Nat) : Prop := q.length < x.length ∨ (q.length = x.length ∧ lexLt q x)
theorem bestIn_worse {seen : List (List Nat)} {x p : List Nat} (h : BestIn S fr t0 tt seen (some p)) (ha : ∀ q, q ∈ seen → Ahead q x) (ht : ¬ timeOf S t0 x < timeOf S t0 p) : BestIn S fr t0 tt (seen ++ [x]) (some p) := by
  refine ⟨List.mem_append.2 (.inl h.1), h.2.1, fun q hq hp hb => ?_⟩
  rcases List.mem_append.1 hq with hq | hq
  · exact h.2.2 q hq hp hb
  · simp at hq
    subst hq
    have h1 := ha p h.1
    rcases hb with hb | ⟨_, hb⟩
    · exact ht hb
    · rcases h1 with h1 | ⟨e, h1⟩
      · rcases hb with hb | ⟨e2, _⟩ <;> omega
      · rcases hb with hb | ⟨e2, hb⟩
        · omega
        · exact lexLt_irrefl _ (lexLt_trans h1 hb)
/-- All ways of n legs, in their order. -/
structure Level (N : Nat) (S : Nat → Sail) (fr : ByteArray) (t0 : Int) (n : Nat) (rows : List (List Nat)) : Prop where
  all : ∀ p, p ∈ rows ↔ Path N S fr t0 p ∧ p.length = n
  rise : rows.Pairwise lexLt
/-- The ways of one leg more, those made so far: from the first i rows all, from row i by the first k sailings. -/
structure LevelTo (N : Nat) (S : Nat → Sail) (fr : ByteArray) (t0 : Int) (n : Nat) (rows : List (List Nat)) (i k : Nat) (next : List (List Nat)) : Prop where
  is : ∀ q, q ∈ next → Path N S fr t0 q ∧ q.length = n + 1
  of : ∀ q, q ∈ next → ∃ j m r, q = r ++ [m] ∧ rows[j]? = some r ∧ (j < i ∨ (j = i ∧ m < k))
  all : ∀ j m r, rows[j]? = some r → (j < i ∨ (j = i ∧ m < k)) → Path N S fr t0 (r ++ [m]) → r ++ [m] ∈ next
  rise : next.Pairwise lexLt
theorem level_zero : Level N S fr t0 0 [[]] :=
  ⟨fun p => ⟨fun h => by simp at h; subst h; exact ⟨.nil, rfl⟩, fun h => by have := List.length_eq_zero_iff.1 h.2; simp [this]⟩, by simp⟩
theorem levelTo_start (n : Nat) (rows : List (List Nat)) : LevelTo N S fr t0 n rows 0 0 [] :=
  ⟨fun q h => (by cases h), fun q h => (by cases h), fun j m r _ h => by omega, by simp⟩
/-- A row is done. -/
theorem levelTo_row {n i : Nat} {rows next : List (List Nat)} (h : LevelTo N S fr t0 n rows i N next) : LevelTo N S fr t0 n rows (i + 1) 0 next :=
  ⟨h.is, fun q hq => by obtain ⟨j, m, r, e, h1, h2⟩ := h.of q hq; exact ⟨j, m, r, e, h1, by omega⟩, fun j m r h1 h2 h3 => h.all j m r h1 (by have := h3.last.2.1; omega) h3, h.rise⟩
/-- A sailing by which row i can't go on. -/
theorem levelTo_skip {n i k : Nat} {rows next : List (List Nat)} (h : LevelTo N S fr t0 n rows i k next) {r : List Nat} (hr : rows[i]? = some r) (hno : ¬ Path N S fr t0 (r ++ [k])) : LevelTo N S fr t0 n rows i (k + 1) next :=
  ⟨h.is, fun q hq => by obtain ⟨j, m, r, e, h1, h2⟩ := h.of q hq; exact ⟨j, m, r, e, h1, by omega⟩, fun j m r' h1 h2 h3 => by
    by_cases e : j = i ∧ m = k
    · obtain ⟨rfl, rfl⟩ := e
      rw [hr] at h1
      cases h1
      exact absurd h3 hno
    · exact h.all j m r' h1 (by omega) h3, h.rise⟩
/-- What was made so far stands ahead of what row i makes by sailing k. -/
theorem levelTo_ahead {n i k : Nat} {rows next : List (List Nat)} (hl : Level N S fr t0 n rows) (h : LevelTo N S fr t0 n rows i k next) {r : List Nat} (hr : rows[i]? = some r) : ∀ q, q ∈ next → lexLt q (r ++ [k]) := by
  intro q hq
  obtain ⟨j, m, r', rfl, h1, h2⟩ := h.of q hq
  rcases h2 with h2 | ⟨rfl, h2⟩
  · have hlt : lexLt r' r := by
      obtain ⟨hj, e1⟩ := List.getElem?_eq_some_iff.1 h1
      obtain ⟨hi, e2⟩ := List.getElem?_eq_some_iff.1 hr
      have := List.pairwise_iff_getElem.1 hl.rise j i hj hi h2
      rw [e1, e2] at this
      exact this
    have l1 := ((hl.all r').1 (List.mem_of_getElem? h1)).2
    have l2 := ((hl.all r).1 (List.mem_of_getElem? hr)).2
    exact lexLt_append _ _ (by omega) hlt
  · rw [hr] at h1
    cases h1
    exact lexLt_same _ _ _ (.inl h2)
/-- A sailing by which row i goes on. -/
theorem levelTo_add {n i k : Nat} {rows next : List (List Nat)} (hl : Level N S fr t0 n rows) (h : LevelTo N S fr t0 n rows i k next) {r : List Nat} (hr : rows[i]? = some r) (hp : Path N S fr t0 (r ++ [k])) : LevelTo N S fr t0 n rows i (k + 1) (next ++ [r ++ [k]]) := by
  have l2 := ((hl.all r).1 (List.mem_of_getElem? hr)).2
  refine ⟨fun q hq => ?_, fun q hq => ?_, fun j m r' h1 h2 h3 => ?_, ?_⟩
  · rcases List.mem_append.1 hq with hq | hq
    · exact h.is q hq
    · simp at hq; subst hq; exact ⟨hp, by simp; omega⟩
  · rcases List.mem_append.1 hq with hq | hq
    · obtain ⟨j, m, r, e, h1, h2⟩ := h.of q hq; exact ⟨j, m, r, e, h1, by omega⟩
    · simp at hq; exact ⟨i, k, r, hq, hr, by omega⟩
  · by_cases e : j = i ∧ m = k
    · obtain ⟨rfl, rfl⟩ := e
      rw [hr] at h1
      cases h1
      exact List.mem_append.2 (.inr (by simp))
    · exact List.mem_append.2 (.inl (h.all j m r' h1 (by omega) h3))
  · rw [List.pairwise_append]
    refine ⟨h.rise, by simp, fun a ha b hb => ?_⟩
    simp at hb
    subst hb
    exact levelTo_ahead hl h hr a ha
/-- All rows are done: the next level. -/
theorem levelTo_end {n : Nat} {rows next : List (List Nat)} (hl : Level N S fr t0 n rows) (h : LevelTo N S fr t0 n rows rows.length 0 next) : Level N S fr t0 (n + 1) next := by
  refine ⟨fun p => ⟨fun hp => h.is p hp, fun hp => ?_⟩, h.rise⟩
  have key : ∀ p : List Nat, Path N S fr t0 p ∧ p.length = n + 1 → p ∈ next := by
    intro p
    refine snocRec (P := fun p => Path N S fr t0 p ∧ p.length = n + 1 → p ∈ next) ?_ ?_ p
    · rintro ⟨_, h0⟩; simp at h0
    · intro r m _ ⟨h1, h2⟩
      have hr := (hl.all r).2 ⟨h1.last.1, by simpa using h2⟩
      obtain ⟨j, hj, e⟩ := List.getElem_of_mem hr
      exact h.all j m r (by rw [List.getElem?_eq_getElem hj, e]) (.inl hj) h1
  exact key p hp
/-- What was seen is all: the best of it is the best. -/
theorem bestIn_none {seen : List (List Nat)} (h : BestIn S fr t0 tt seen none) (hall : ∀ q, Path N S fr t0 q → q.length ≤ 3 → q ≠ [] → q ∈ seen) (hne : fr ≠ tt) : ∀ q, ¬ Goal N S fr t0 tt q := by
  rintro q ⟨h1, h2, h3⟩
  by_cases e : q = []
  · subst e; exact hne h3
  · exact h q (hall q h1 h2 e) h3
theorem bestIn_some {seen : List (List Nat)} {p : List Nat} (h : BestIn S fr t0 tt seen (some p)) (his : ∀ q, q ∈ seen → Path N S fr t0 q ∧ q.length ≤ 3) (hall : ∀ q, Path N S fr t0 q → q.length ≤ 3 → q ≠ [] → q ∈ seen) (hne : fr ≠ tt) : Best N S fr t0 tt p := by
  refine ⟨⟨(his p h.1).1, (his p h.1).2, h.2.1⟩, ?_⟩
  rintro q ⟨h1, h2, h3⟩
  by_cases e : q = []
  · subst e; exact absurd h3 hne
  · exact h.2.2 q (hall q h1 h2 e) h3
end

end Go.Proofs.Ythcjfoaejomfaaa
