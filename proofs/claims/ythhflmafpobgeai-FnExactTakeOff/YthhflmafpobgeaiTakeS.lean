/-
  OWN TEXT: contracts of the specification's l4Without and TakeOff.
-/
import Derived.Test.YthhflmafpobgeaiSpecD2
import Derived.Test.YthhflmafpobgeaiPlainP
import Derived.Test.YthhflmafpobgeaiLStay
namespace Go.Proofs.Ythhflmafpobgeai
open Go.RowKit

/-- How many are kept of the first k when the one at r goes. -/
def cntW (r k : Nat) : Nat := if k ≤ r then k else k - 1

set_option maxHeartbeats 1600000 in
set_option maxRecDepth 100000 in
theorem l4Without_any (bo : Option Addr) (n c r : Nat) (S : Nat → Stay) (x : Int) (w : World) (hn : n ≤ 60) (hr : r < n) (hx : whoS S r = x) (ho : ∀ j, j < n → j ≠ r → whoS S j ≠ x) (hz : StaysAt w bo n S) :
    Calls Try.prog 31 #[.slice bo n c, .int .i64 x] w fun e w' => (∃ v, e = .returned v ∧ w'.ownsRow w.heap.size 46 4 v (n - 1) (stayList (without S r) (n - 1))) ∧ Below w.heap.size w w' := by
  obtain ⟨j0, ji, jz0, jz1, jz2⟩ := info_parts Try.infoStay
  have HZ : Hid (StaysAt w bo n S) := hz
  have HX : Hid (whoS S r = x) := hx
  have HO : Hid (∀ j, j < n → j ≠ r → whoS S j ≠ x) := ho
  clear hz hx ho
  go_enter Try.func31, Try.ntmps31
  go_wp2
  go_loopw [5, 7, 10] (fun v _ i wr => ∃ k : Nat, k ≤ n ∧ i = .int .i64 k ∧ wr.ownsRow w.heap.size 46 4 v (cntW r k) (stayList (without S r) (cntW r k)) ∧ Below w.heap.size w wr) (fun _ _ i _ => n - (intOf i).toNat)
  case atStart => exact ⟨0, Nat.zero_le _, rfl, ⟨rfl, .inl ⟨rfl, rfl⟩⟩, Below.refl _ _⟩
  case round =>
    obtain ⟨k, hk, rfl, hown, hbel⟩ := hrel
    by_cases hlt : k < n
    · obtain ⟨b, off, rfl, h0, h1, h2, h3⟩ := HZ.out k hlt
      have hb := World.block_lt_of_cell? w _ h0
      have c0 := (hbel.cell (p := ⟨b, off + k * 4, none⟩) hb).trans h0
      have c1 := (hbel.cell (p := ⟨b, off + k * 4 + 1, none⟩) hb).trans h1
      have c2 := (hbel.cell (p := ⟨b, off + k * 4 + 2, none⟩) hb).trans h2
      have c3 := (hbel.cell (p := ⟨b, off + k * 4 + 3, none⟩) hb).trans h3
      clear h0 h1 h2 h3
      by_cases he : k = r
      · have e1 : ((S k).who == x) = true := by rw [he]; simpa [whoS] using HX.out
        have e2 : ((S k).who != x) = false := by rw [he]; simpa [whoS] using HX.out
        have HC : Hid (cntW r (k + 1) = cntW r k) := by
          have a1 : cntW r (k + 1) = k + 1 - 1 := if_neg (by omega)
          have a2 : cntW r k = k := if_pos (by omega)
          show cntW r (k + 1) = cntW r k
          omega
        clear he
        go_wp2
        go_roundw
        case rel => exact ⟨k + 1, by omega, by go_num, by rw [HC.out]; exact own_below (push (Below.refl _ _) _) hown, push hbel _⟩
        case measure => simp [intOf]; omega
      · have hne := HO.out k hlt he
        have e1 : ((S k).who == x) = false := by simpa [whoS] using hne
        have e2 : ((S k).who != x) = true := by simpa [whoS] using hne
        have HC : Hid (cntW r (k + 1) = cntW r k + 1 ∧ without S r (cntW r k) = S k ∧ cntW r k ≤ 60) := by
          by_cases c : k ≤ r
          · have a1 : cntW r (k + 1) = k + 1 := if_pos (by omega)
            have a2 : cntW r k = k := if_pos c
            have a3 : without S r k = S k := if_pos (by omega)
            rw [a1, a2, a3]
            exact ⟨rfl, rfl, by omega⟩
          · have a1 : cntW r (k + 1) = k + 1 - 1 := if_neg (by omega)
            have a2 : cntW r k = k - 1 := if_neg c
            have a3 : without S r (k - 1) = S (k - 1 + 1) := if_neg (by omega)
            rw [a1, a2, a3]
            exact ⟨by omega, by rw [show k - 1 + 1 = k by omega], by omega⟩
        clear he hne
        have hsz := hbel.size
        have hcb := HC.out.2.2
        generalize hq : cntW r k = q at hown hcb
        have HQ : Hid (cntW r k = q) := hq
        clear hq
        have HN : Hid (∀ ad, (some ⟨wr.heap.size + 1, 0, none⟩ : Option Addr) = some ad → ∀ j u, [Value.int .i64 (S k).who, .int .i64 (S k).ln, .int .i64 (S k).len, .int .i64 (S k).hei][j]? = some u → ((wr.alloc (.cells #[.int .i64 (S k).who, .int .i64 (S k).ln, .int .i64 (S k).len, .int .i64 (S k).hei] 46)).alloc (.cells #[.int .i64 (S k).who, .int .i64 (S k).ln, .int .i64 (S k).len, .int .i64 (S k).hei] 46)).cell? (ad.add j) = some u) := by
          intro ad e
          cases e
          exact World.news_of_block (by simpa using heap_alloc_new (wr.alloc _) _)
        go_wp2_with (first | (at_builtin; refine wpList_append_any _ (by rfl) (.tmp 18) (.tmp 20) 26 (by rfl) w.heap.size 46 j0 (.agg #[.int .i64 0, .int .i64 0, .int .i64 0, .int .i64 0]) 4 32 Try.underlying26 ji jz0 jz1 jz2 rfl (by decide) _ q (stayList (without S r) q) (by rfl) ((hown.alloc _).alloc _) (some ⟨wr.heap.size + 1, 0, none⟩) 1 1 [.int .i64 (S k).who, .int .i64 (S k).ln, .int .i64 (S k).len, .int .i64 (S k).hei] (by rfl) (fun h => (by cases h)) (by rfl) HN.out (by intro u hu; simp at hu; rcases hu with rfl | rfl | rfl | rfl <;> rfl) (by unfold maxLen; omega) (by omega) (by simp; omega) ?_; intro v' w3 ho3 hg3))
        go_roundw
        case rel =>
          refine ⟨k + 1, by omega, by go_num, ?_, (push (push hbel _) _).grown hg3 (by simp; omega) (fun j hj => (hown.lt j hj).1)⟩
          obtain ⟨a1, a2, _⟩ := HC.out
          rw [a1, HQ.out, stayList_succ]
          rw [HQ.out] at a2
          rw [a2]
          exact ho3
        case measure => simp [intOf]; omega
    · obtain rfl : k = n := by omega
      have HC : Hid (cntW r k = k - 1) := if_neg (by omega)
      rw [HC.out] at hown
      go_wp2
      go_ret
      exact ⟨⟨_, rfl, hown⟩, hbel⟩

set_option maxHeartbeats 1600000 in
set_option maxRecDepth 100000 in
theorem specTake_any (ao bo : Option Addr) (m mc n c : Nat) (p : Pairs) (S : Nat → Stay) (x : Int) (w : World) (hl : p.n = m) (hm : m ≤ 1048576) (hn : n ≤ 1048576) (hc : n ≤ c) (hx : PairsAt w ao p) (hz : StaysAt w bo n S) :
    Calls Try.prog 16 #[.slice ao m mc, .slice bo n c, .int .i64 x] w fun e w' => TakeRes w' w.heap.size 46 p n S x e ∧ Below w.heap.size w w' := by
  have HX : Hid (PairsAt w ao p) := hx
  have HZ : Hid (StaysAt w bo n S) := hz
  have HL : Hid (p.n = m) := hl
  clear hx hz hl
  go_enter Try.func16, Try.ntmps16
  go_wp2_with fail
  refine (specDeck_any ao bo m mc n c p S _ HL.out hm hn hc HX.out HZ.out).mono ?_
  rintro e w1 ⟨⟨q, rfl, hq⟩, hb1⟩
  rw [deck_iff] at hq
  cases q with
  | false =>
    have HD : Hid (¬ DeckI p n S) := fun h => by have := hq.2 h; cases this
    clear hq
    go_wp2
    exact bodyPost_ret (v := .tuple #[.slice none 0 0, .bool false]) (by simp [results, Try.results16, go_sem]) rfl ⟨takeRes_no (fun h => HD.out h.1), hb1⟩
  | true =>
    have HD : Hid (DeckI p n S) := hq.1 rfl
    clear hq
    go_wp2_with fail
    refine (l4Has_any bo n c S x _ hn (HZ.out.below hb1)).mono ?_
    rintro e w2 ⟨⟨q2, rfl, hq2⟩, hb2⟩
    have bw2 := after hb1 hb2
    clear hb1 hb2
    cases q2 with
    | false =>
      have HH : Hid (¬ Has (whoS S) n x) := fun h => by have := hq2.2 h; cases this
      clear hq2
      go_wp2
      exact bodyPost_ret (v := .tuple #[.slice none 0 0, .bool false]) (by simp [results, Try.results16, go_sem]) rfl ⟨takeRes_no (fun h => HH.out h.2), bw2⟩
    | true =>
      have HH : Hid (Has (whoS S) n x) := hq2.1 rfl
      clear hq2
      have HR : Hid (ixOf (whoS S) x n < n) := (has_iff _ _ _).1 HH.out
      go_wp2_with fail
      refine (l4Without_any bo n c (ixOf (whoS S) x n) S x _ HD.out.2.1 HR.out (ixOf_at _ _ _ HR.out) (fun j hj hne => deck_other HD.out hj hne HR.out) (HZ.out.below bw2)).mono ?_
      rintro e w3 ⟨⟨v, rfl, ho⟩, hb3⟩
      go_wp2
      exact bodyPost_ret (v := .tuple #[v, .bool true]) (by simp [results, Try.results16, go_sem]) rfl ⟨takeRes_yes HD.out HH.out (own_base ho bw2.size), after bw2 hb3⟩

end Go.Proofs.Ythhflmafpobgeai
