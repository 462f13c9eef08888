/-
  OWN TEXT: FreeP0, FreeL.
-/
import Derived.Test.YtlnadbnoemlpeaaGreatRows
import Derived.Test.YtlnadbnoemlpeaaGreatB12
import Derived.Test.YtlnadbnoemlpeaaGreatB16
import Derived.Test.YtlnadbnoemlpeaaGreatB23
import Derived.Test.YtlnadbnoemlpeaaGreatB25
namespace Go.Proofs.YtlnadbnoemlpeaaGreat
open Go.RowKit

open Classical in
/-- Whether the deck is good. -/
noncomputable def deckOk (p : Pairs) (n : Nat) (S : Nat → Stay) : Bool := decide (DeckI p n S)
/-- How many lengths FreeLengths answers. -/
noncomputable def freeLen (p : Pairs) (n : Nat) (S : Nat → Stay) : Nat := if deckOk p n S then p.n else 0
theorem deckOk_yes {p : Pairs} {n : Nat} {S : Nat → Stay} (h : DeckI p n S) : deckOk p n S = true := by unfold deckOk; simpa using h
theorem deckOk_no {p : Pairs} {n : Nat} {S : Nat → Stay} (h : ¬ DeckI p n S) : deckOk p n S = false := by unfold deckOk; simpa using h
theorem freeLen_yes {p : Pairs} {n : Nat} {S : Nat → Stay} (h : DeckI p n S) : freeLen p n S = p.n := by unfold freeLen; rw [deckOk_yes h]; rfl
theorem freeLen_no {p : Pairs} {n : Nat} {S : Nat → Stay} (h : ¬ DeckI p n S) : freeLen p n S = 0 := by unfold freeLen; rw [deckOk_no h]; rfl
theorem freeLen_le (p : Pairs) (n : Nat) (S : Nat → Stay) : freeLen p n S ≤ 4 := by
  by_cases h : DeckI p n S
  · rw [freeLen_yes h]; exact h.1.1
  · rw [freeLen_no h]; omega
/-- What FreeLengths answers: a list of its own, and whether the deck is good. -/
def FreeRes (w' : World) (base : Nat) (p : Pairs) (n : Nat) (S : Nat → Stay) (e : Ending) : Prop :=
  ∃ v, e = .returned (.tuple #[v, .bool (deckOk p n S)]) ∧ w'.ownsRow base 3 1 v (freeLen p n S) (intList (left p S n) (freeLen p n S))
theorem freeRes_no {w : World} {base : Nat} {p : Pairs} {n : Nat} {S : Nat → Stay} (h : ¬ DeckI p n S) : FreeRes w base p n S (.returned (.tuple #[.slice none 0 0, .bool false])) :=
  ⟨_, by rw [deckOk_no h], by rw [freeLen_no h]; exact ⟨rfl, .inl ⟨rfl, rfl⟩⟩⟩
theorem freeRes_yes {w : World} {base m : Nat} {p : Pairs} {n : Nat} {S : Nat → Stay} {v : Value} (h : DeckI p n S) (hm : p.n = m) (ho : w.ownsRow base 3 1 v m (intList (left p S n) m)) : FreeRes w base p n S (.returned (.tuple #[v, .bool true])) :=
  ⟨_, by rw [deckOk_yes h], by rw [freeLen_yes h, hm]; exact ho⟩

end Go.Proofs.YtlnadbnoemlpeaaGreat

namespace Go.Proofs.YtlnadbnoemlpeaaGreat
open Go.RowKit

theorem four_ints {w : World} {f t m : Nat} {F G : Nat → Int} (h : w.heap[f]? = some (.cells #[.int .i64 (F 0), .int .i64 (F 1), .int .i64 (F 2), .int .i64 (F 3)] t (0, 0))) (hm : m ≤ 4) (hF : ∀ k, k < m → F k = G k) : IntsAt w (some ⟨f, 0, none⟩) m G := by
  intro k hk
  refine ⟨f, 0, rfl, ?_⟩
  rw [Nat.zero_add, ← hF k hk]
  have : k = 0 ∨ k = 1 ∨ k = 2 ∨ k = 3 := by omega
  rcases this with rfl | rfl | rfl | rfl
  · exact blk_cell h 0 _ rfl
  · exact blk_cell h 1 _ rfl
  · exact blk_cell h 2 _ rfl
  · exact blk_cell h 3 _ rfl

set_option maxHeartbeats 800000 in
set_option maxRecDepth 100000 in
theorem implFree_any (ao bo : Option Addr) (m mc n c : Nat) (p : Pairs) (S : Nat → Stay) (w : World) (hl : p.n = m) (hm : m ≤ 1048576) (hn : n ≤ 1048576) (hc : n ≤ c) (hx : PairsAt w ao p) (hz : StaysAt w bo n S) :
    Calls Tryz.prog 56 #[.slice ao m mc, .slice bo n c] w fun e w' => FreeRes w' w.heap.size p n S e ∧ Below w.heap.size w w' := by
  have HX : Hid (PairsAt w ao p) := hx
  have HZ : Hid (StaysAt w bo n S) := hz
  have HL : Hid (p.n = m) := hl
  clear hx hz hl
  go_enter Tryz.func56, Tryz.ntmps56
  go_wp2_with fail
  refine (freeOnDeck_any ao bo m mc n c p S _ HL.out hm hn hc HX.out HZ.out).mono ?_
  rintro e w1 ⟨hans, hb1⟩
  unfold FreeAns four at hans
  rcases hans with ⟨hd, rfl⟩ | ⟨hd, rfl⟩
  · have HD : Hid (DeckI p n S) := hd
    have hm4 : m ≤ 4 := by rw [← HL.out]; exact hd.1.1
    clear hd
    have i1 : (0 : Int) ≤ (m : Int) := by omega
    have i2 : (m : Int) ≤ 4 := by omega
    have hb2 := push hb1 (.cells #[.int .i64 (freeAt p S n 0), .int .i64 (freeAt p S n 1), .int .i64 (freeAt p S n 2), .int .i64 (freeAt p S n 3)] 156)
    have HI : Hid (IntsAt (w1.alloc (.cells #[.int .i64 (freeAt p S n 0), .int .i64 (freeAt p S n 1), .int .i64 (freeAt p S n 2), .int .i64 (freeAt p S n 3)] 156)) (some ⟨w1.heap.size, 0, none⟩) m (left p S n)) := four_ints (heap_alloc_new w1 _) hm4 (fun k hk => if_pos (by rw [HL.out]; exact hk))
    go_wp2_with (first | (go_at_call 102; refine (cloneInts _ m _ (left p S n) _ hm HI.out).mono ?_; rintro e w2 ⟨⟨v, rfl, ho⟩, hb3⟩))
    exact bodyPost_ret (v := .tuple #[v, .bool true]) (by simp [results, Tryz.results56, go_sem]) rfl ⟨freeRes_yes HD.out HL.out (own_base ho hb2.size), after hb2 hb3⟩
  · have HD : Hid (¬ DeckI p n S) := hd
    clear hd
    go_wp2
    exact bodyPost_ret (v := .tuple #[.slice none 0 0, .bool false]) (by simp [results, Tryz.results56, go_sem]) rfl ⟨freeRes_no HD.out, push hb1 _⟩

end Go.Proofs.YtlnadbnoemlpeaaGreat
