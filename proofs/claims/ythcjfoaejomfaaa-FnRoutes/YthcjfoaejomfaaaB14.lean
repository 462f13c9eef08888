/-
  OWN TEXT: DrawW, PlainF.
-/
import Derived.Test.YthcjfoaejomfaaaB13
import Derived.Test.YthcjfoaejomfaaaB10
namespace Go.Proofs.Ythcjfoaejomfaaa
open Go.RowKit

theorem curX_new {w : World} {ao : Option Addr} {n c : Nat} (h : BytesAt w ao n) : CurX (w.alloc (.cells #[.slice ao n c, .int .i64 0, .int .u64 0] 40)) w.heap.size ao n c 0 :=
  ⟨0, 0, Nat.le_refl _, heap_alloc_new w _, (cur_new (c := c) h).2⟩
theorem codeLow_of {w : World} {cb n c a : Nat} {ao : Option Addr} (h : CurX w cb ao n c a) : CodeLow w ao n := fun k hk b off e => by
  obtain ⟨p, s, _, hc⟩ := h
  obtain ⟨b', off', v, e', _, hc, _⟩ := hc.code k hk
  rw [e] at e'
  cases e'
  exact World.block_lt_of_cell? w _ hc

set_option maxHeartbeats 6400000 in
set_option maxRecDepth 100000 in
theorem drawRoute_any (ao : Option Addr) (n c : Nat) (w : World) (hn : n ≤ 1048576) (h : BytesAt w ao n) :
    Calls Try.prog 4 #[.slice ao n c] w fun e w' => (∃ (lo : Option Addr) (N lc : Nat) (S : Nat → Sail) (fr tt : ByteArray) (t : Int), e = .returned (.tuple #[.slice lo N lc, .string fr, .string tt, .int .i64 t]) ∧ (0 < N ∧ N ≤ 7) ∧ Hid (∃ L C, LieSails w' (w.heap.size + 1) (.slice lo N lc) N S L C ∧ ShortAll N S 100 ∧ fr.size ≤ 100 ∧ tt.size ≤ 100)) ∧ Below w.heap.size w w' := by
  have hc0 := curX_new (c := c) h
  have hs0 : (w.alloc (.cells #[.slice ao n c, .int .i64 0, .int .u64 0] 40)).heap.size = w.heap.size + 1 := by simp
  have hb0 : Below w.heap.size w (w.alloc (.cells #[.slice ao n c, .int .i64 0, .int .u64 0] 40)) := push (Below.refl _ _) _
  go_enter Try.func4, Try.ntmps4
  go_wp2_with fail
  generalize w.alloc (.cells #[.slice ao n c, .int .i64 0, .int .u64 0] 40) = v1 at hc0 hs0 hb0 ⊢
  have HCL : Hid (CodeLow v1 ao n) := codeLow_of hc0
  have hcb : w.heap.size < v1.heap.size := by omega
  refine (timetable_any w.heap.size ao n c 0 v1 (by omega) hn hcb HCL hc0).mono ?_
  rintro e v2 ⟨v, N, S, L, C, rfl, hN, H2⟩
  obtain ⟨lo, lc, rfl, _⟩ := own_form H2.out.lie.row
  clear h hc0
  go_wp2_with fail
  refine (portC w.heap.size ao n c 90000000000000 _ (by omega) H2.out.cur).mono ?_
  rintro e v3 ⟨⟨s3, rfl, hs3⟩, hc3, hk3⟩
  have H3 : Hid _ := H2.out.on hcb hc3 hk3
  clear H2 hc3 hk3
  go_wp2_with fail
  refine (portC w.heap.size ao n c (90000000000000 + 1) _ (by omega) H3.out.cur).mono ?_
  rintro e v4 ⟨⟨s4, rfl, hs4⟩, hc4, hk4⟩
  have H4 : Hid (LSit v1 v4 w.heap.size ao n c (90000000000000 + 2) (.slice lo N lc) N S L C) := H3.out.on hcb hc4 hk4
  clear H3 hc4 hk4
  go_upto_region 5 with fail
  go_cut [26] (fun v wx => ∃ b : Bool, v = .bool b ∧ (b = true → 0 < N) ∧ Hid (LSit v1 wx w.heap.size ao n c (90000000000000 + 3) (.slice lo N lc) N S L C))
  case first =>
    by_cases hN0 : N = 0
    · have dN : decide ((0 : Int) < (N : Int)) = false := by simp; omega
      go_wp2
      go_meet
      exact ⟨false, rfl, fun e => (by cases e), H4.out.more (by omega)⟩
    · have dN : decide ((0 : Int) < (N : Int)) = true := by simp; omega
      go_wp2_with fail
      refine (oneC w.heap.size ao n c (90000000000000 + 2) 2 _ (by omega) (by omega) (by omega) H4.out.cur).mono ?_
      rintro e v7 ⟨⟨b7, rfl⟩, hc7, hk7⟩
      have H7 : Hid _ := H4.out.on hcb hc7 hk7
      clear H4 hc7 hk7
      go_wp2
      go_meet
      exact ⟨_, rfl, fun _ => by omega, H7.out⟩
  case rest =>
  obtain ⟨b5, rfl, hb5, H5⟩ := hcut
  clear H4
  go_upto_if 26 with fail
  go_cut [8, 9] (fun x y wx => ∃ s t : ByteArray, x = .string s ∧ y = .string t ∧ Hid (s.size ≤ 100 ∧ t.size ≤ 100) ∧ Hid (LSit v1 wx w.heap.size ao n c (90000000000000 + 3) (.slice lo N lc) N S L C))
  case first =>
    cases b5 with
    | false =>
      go_wp2
      go_meet
      exact ⟨s3, s4, rfl, rfl, ⟨by omega, by omega⟩, H5.out⟩
    | true =>
      obtain ⟨M, rfl⟩ : ∃ M, N = M + 1 := ⟨N - 1, by have := hb5 rfl; omega⟩
      obtain ⟨g, rfl, _, _⟩ := own_addr H5.out.lie.row (by omega)
      have hwM : IntKind.i64.wrap ((((M + 1 : Nat)) : Int) - 1) = (M : Int) := by rw [IntKind.wrap_i64]; omega
      have l2 := (own_cell H5.out.lie.row (M * 8 + 2) (by omega) rfl).trans (congrArg some (sailCell_2 S L C M))
      have l1 := (own_cell H5.out.lie.row (0 * 8 + 1) (by omega) rfl).trans (congrArg some (sailCell_1 S L C 0))
      rw [Nat.zero_mul, Nat.zero_add] at l1
      have hq1 := H5.out.short 0 (by omega)
      have hq2 := H5.out.short M (by omega)
      have HQ : Hid ((S 0).fr.size ≤ 100 ∧ (S M).dst.size ≤ 100) := ⟨hq1.1, hq2.2.1⟩
      clear hq1 hq2 hb5
      go_wp2
      go_meet
      exact ⟨_, _, rfl, rfl, HQ, H5.out⟩
  case rest =>
  obtain ⟨fr, tt, rfl, rfl, HQ, H6⟩ := hcut
  clear H5 hb5
  go_wp2_with fail
  refine (pickC w.heap.size ao n c (90000000000000 + 3) 20 _ (by omega) (by omega) (by omega) H6.out.cur).mono ?_
  rintro e v7 ⟨⟨t7, rfl, ht7⟩, hc7, hk7⟩
  have H7 : Hid _ := H6.out.on hcb hc7 hk7
  clear H6 hc7 hk7
  go_wp2_with fail
  refine (oneC w.heap.size ao n c (90000000000000 + 3 + 1) 20 _ (by omega) (by omega) (by omega) H7.out.cur).mono ?_
  rintro e v8 ⟨⟨b8, rfl⟩, hc8, hk8⟩
  have H8 : Hid _ := H7.out.on hcb hc8 hk8
  clear H7 hc8 hk8
  go_upto_if 41 with fail
  go_cut [10] (fun x wx => ∃ t : Int, x = .int .i64 t ∧ Hid (LSit v1 wx w.heap.size ao n c (90000000000000 + 3 + 1 + 1 + 1) (.slice lo N lc) N S L C))
  case first =>
    cases b8 with
    | false =>
      go_wp2
      go_meet
      exact ⟨_, rfl, H8.out.more (by omega)⟩
    | true =>
      go_wp2_with fail
      refine (amongC w.heap.size ao n c (90000000000000 + 3 + 1 + 1) 3 [-1, 10000, 10001] _ rfl (by omega) (by omega) (by omega) (H8.out.cur.below (push (Below.refl _ _) _)) _ (heap_alloc_new _ _) (by have h1 := H8.out.kept.size; omega)).mono ?_
      rintro e v9 ⟨⟨r9, rfl⟩, hc9, hk9⟩
      have H9 : Hid _ := (H8.out.below (push (Below.refl _ _) _)).on hcb hc9 hk9
      clear H8 hc9 hk9
      go_wp2
      go_meet
      exact ⟨_, rfl, H9.out⟩
  case rest =>
  obtain ⟨t, rfl, H9⟩ := hcut
  clear H8
  have hbF : Below w.heap.size w wc := Kept.below hb0 (by omega) H9.out.kept (fun k e => by have e : k = w.heap.size := e; omega)
  go_wp2
  exact bodyPost_ret (v := .tuple #[.slice lo N lc, .string fr, .string tt, .int .i64 t]) (by simp [results, Try.results4, go_sem]) rfl ⟨⟨lo, N, lc, S, fr, tt, t, rfl, hN, L, C, by rw [← hs0]; exact H9.out.lie, H9.out.short, HQ.out⟩, hbF⟩

end Go.Proofs.Ythcjfoaejomfaaa

namespace Go.Proofs.Ythcjfoaejomfaaa
open Go.RowKit

/-- Where the first sailing with the Id x stands among the first n, n where there is none. -/
def findIx (S : Nat → Sail) (x : Int) : Nat → Nat
  | 0 => 0
  | n + 1 => if findIx S x n < n then findIx S x n else if (S n).id = x then n else n + 1
theorem findIx_le (S : Nat → Sail) (x : Int) (n : Nat) : findIx S x n ≤ n := by
  induction n with
  | zero => exact Nat.le_refl _
  | succ n ih => unfold findIx; split <;> (try split) <;> omega
theorem findIx_before (S : Nat → Sail) (x : Int) (n : Nat) : ∀ j, j < findIx S x n → (S j).id ≠ x := by
  induction n with
  | zero => intro j hj; unfold findIx at hj; omega
  | succ n ih =>
    intro j hj
    unfold findIx at hj
    have hl := findIx_le S x n
    split at hj
    · exact ih j hj
    · rename_i h
      split at hj
      · exact ih j (by omega)
      · rename_i h2
        by_cases e : j = n
        · subst e; exact h2
        · exact ih j (by omega)
theorem findIx_at (S : Nat → Sail) (x : Int) (n : Nat) (h : findIx S x n < n) : (S (findIx S x n)).id = x := by
  induction n with
  | zero => omega
  | succ n ih =>
    unfold findIx at h ⊢
    split
    · rename_i h1; exact ih h1
    · rename_i h1
      rw [if_neg h1] at h
      split
      · rename_i h2; exact h2
      · rename_i h2; rw [if_neg h2] at h; omega
/-- The one that is met first is it. -/
theorem findIx_is {S : Nat → Sail} {x : Int} {n r : Nat} (hr : r < n) (he : (S r).id = x) (hb : ∀ j, j < r → (S j).id ≠ x) : findIx S x n = r := by
  have h1 := findIx_before S x n
  by_cases c : findIx S x n < r
  · exact absurd (findIx_at S x n (by omega)) (hb _ c)
  · by_cases c2 : r < findIx S x n
    · exact absurd he (h1 r c2)
    · omega
theorem findIx_none {S : Nat → Sail} {x : Int} {n : Nat} (hb : ∀ j, j < n → (S j).id ≠ x) : findIx S x n = n := by
  have h1 := findIx_le S x n
  by_cases c : findIx S x n < n
  · exact absurd (findIx_at S x n c) (hb _ c)
  · omega

/-- Leg i of the legs G can be taken behind the one ahead. -/
def LegOk (N : Nat) (S : Nat → Sail) (G : Nat → Int) (i : Nat) : Prop :=
  findIx S (G i) N < N ∧ (0 < i → (S (findIx S (G (i - 1)) N)).dst = (S (findIx S (G i) N)).fr ∧ (S (findIx S (G (i - 1)) N)).arr ≤ (S (findIx S (G i) N)).dep)
/-- n legs fit. -/
def LegsOk (N : Nat) (S : Nat → Sail) (n : Nat) (G : Nat → Int) : Prop := 1 ≤ n ∧ n ≤ 3 ∧ ∀ i, i < n → LegOk N S G i

end Go.Proofs.Ythcjfoaejomfaaa
