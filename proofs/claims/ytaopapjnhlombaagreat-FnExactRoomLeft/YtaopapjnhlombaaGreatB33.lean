/-
  OWN TEXT: FreeP0, FreeL, LeftOn.
-/
import Derived.Test.YtaopapjnhlombaaGreatRows
import Derived.Test.YtaopapjnhlombaaGreatB11
import Derived.Test.YtaopapjnhlombaaGreatB17
import Derived.Test.YtaopapjnhlombaaGreatB29
import Derived.Test.YtaopapjnhlombaaGreatB31
import Derived.Test.YtaopapjnhlombaaGreatB19
import Derived.Test.YtaopapjnhlombaaGreatB32
namespace Go.Proofs.YtaopapjnhlombaaGreat
open Go.RowKit

open Classical in
/-- Whether the deck is good. -/
noncomputable def deckOk (p : Pairs) (n : Nat) (S : Nat → Stay) : Bool := decide (DeckI p n S)
/-- How many lengths FreeLengths answers. -/
noncomputable def freeLen (p : Pairs) (n : Nat) (S : Nat → Stay) : Nat := if deckOk p n S then p.n else 0
theorem deckOk_yes {p : Pairs} {n : Nat} {S : Nat → Stay} (h : DeckI p n S) : deckOk p n S = true := by unfold deckOk; simpa using h
theorem deckOk_no {p : Pairs} {n : Nat} {S : Nat → Stay} (h : ¬ DeckI p n S) : deckOk p n S = false := by unfold deckOk; simpa using h
theorem freeLen_yes {p : Pairs} {n : Nat} {S : Nat → Stay} (h : DeckI p n S) : freeLen p n S = p.n := by unfold freeLen; rw [deckOk_yes h]; rfl
theorem freeLen_no {p : Pairs} {n : Nat} {S : Nat → Stay} (h : ¬ DeckI p n S) : freeLen p n S = 0 := by unfold freeLen; rw [deckOk_no h]; rfl
theorem freeLen_le (p : Pairs) (n : Nat) (S : Nat → Stay) : freeLen p n S ≤ 4 := by
  by_cases h : DeckI p n S
  · rw [freeLen_yes h]; exact h.1.1
  · rw [freeLen_no h]; omega
/-- What FreeLengths answers: a list of its own, and whether the deck is good. -/
def FreeRes (w' : World) (base : Nat) (p : Pairs) (n : Nat) (S : Nat → Stay) (e : Ending) : Prop :=
  ∃ v, e = .returned (.tuple #[v, .bool (deckOk p n S)]) ∧ w'.ownsRow base 3 1 v (freeLen p n S) (intList (left p S n) (freeLen p n S))
theorem freeRes_no {w : World} {base : Nat} {p : Pairs} {n : Nat} {S : Nat → Stay} (h : ¬ DeckI p n S) : FreeRes w base p n S (.returned (.tuple #[.slice none 0 0, .bool false])) :=
  ⟨_, by rw [deckOk_no h], by rw [freeLen_no h]; exact ⟨rfl, .inl ⟨rfl, rfl⟩⟩⟩
theorem freeRes_yes {w : World} {base m : Nat} {p : Pairs} {n : Nat} {S : Nat → Stay} {v : Value} (h : DeckI p n S) (hm : p.n = m) (ho : w.ownsRow base 3 1 v m (intList (left p S n) m)) : FreeRes w base p n S (.returned (.tuple #[v, .bool true])) :=
  ⟨_, by rw [deckOk_yes h], by rw [freeLen_yes h, hm]; exact ho⟩

end Go.Proofs.YtaopapjnhlombaaGreat

namespace Go.Proofs.YtaopapjnhlombaaGreat
open Go.RowKit

theorem four_ints {w : World} {f t m : Nat} {F G : Nat → Int} (h : w.heap[f]? = some (.cells #[.int .i64 (F 0), .int .i64 (F 1), .int .i64 (F 2), .int .i64 (F 3)] t (0, 0))) (hm : m ≤ 4) (hF : ∀ k, k < m → F k = G k) : IntsAt w (some ⟨f, 0, none⟩) m G := by
  intro k hk
  refine ⟨f, 0, rfl, ?_⟩
  rw [Nat.zero_add, ← hF k hk]
  have : k = 0 ∨ k = 1 ∨ k = 2 ∨ k = 3 := by omega
  rcases this with rfl | rfl | rfl | rfl
  · exact blk_cell h 0 _ rfl
  · exact blk_cell h 1 _ rfl
  · exact blk_cell h 2 _ rfl
  · exact blk_cell h 3 _ rfl

set_option maxHeartbeats 800000 in
set_option maxRecDepth 100000 in
theorem implFree_any (ao bo : Option Addr) (m mc n c : Nat) (p : Pairs) (S : Nat → Stay) (w : World) (hl : p.n = m) (hm : m ≤ 1048576) (hn : n ≤ 1048576) (hc : n ≤ c) (hx : PairsAt w ao p) (hz : StaysAt w bo n S) :
    Calls Tryz.prog 70 #[.slice ao m mc, .slice bo n c] w fun e w' => FreeRes w' w.heap.size p n S e ∧ Below w.heap.size w w' := by
  have HX : Hid (PairsAt w ao p) := hx
  have HZ : Hid (StaysAt w bo n S) := hz
  have HL : Hid (p.n = m) := hl
  clear hx hz hl
  go_enter Tryz.func70, Tryz.ntmps70
  go_wp2_with fail
  refine (freeOnDeck_any ao bo m mc n c p S _ HL.out hm hn hc HX.out HZ.out).mono ?_
  rintro e w1 ⟨hans, hb1⟩
  unfold FreeAns four at hans
  rcases hans with ⟨hd, rfl⟩ | ⟨hd, rfl⟩
  · have HD : Hid (DeckI p n S) := hd
    have hm4 : m ≤ 4 := by rw [← HL.out]; exact hd.1.1
    clear hd
    have i1 : (0 : Int) ≤ (m : Int) := by omega
    have i2 : (m : Int) ≤ 4 := by omega
    have hb2 := push hb1 (.cells #[.int .i64 (freeAt p S n 0), .int .i64 (freeAt p S n 1), .int .i64 (freeAt p S n 2), .int .i64 (freeAt p S n 3)] 188)
    have HI : Hid (IntsAt (w1.alloc (.cells #[.int .i64 (freeAt p S n 0), .int .i64 (freeAt p S n 1), .int .i64 (freeAt p S n 2), .int .i64 (freeAt p S n 3)] 188)) (some ⟨w1.heap.size, 0, none⟩) m (left p S n)) := four_ints (heap_alloc_new w1 _) hm4 (fun k hk => if_pos (by rw [HL.out]; exact hk))
    go_wp2_with (first | (go_at_call 83; refine (cloneInts _ m _ (left p S n) _ hm HI.out).mono ?_; rintro e w2 ⟨⟨v, rfl, ho⟩, hb3⟩))
    exact bodyPost_ret (v := .tuple #[v, .bool true]) (by simp [results, Tryz.results70, go_sem]) rfl ⟨freeRes_yes HD.out HL.out (own_base ho hb2.size), after hb2 hb3⟩
  · have HD : Hid (¬ DeckI p n S) := hd
    clear hd
    go_wp2
    exact bodyPost_ret (v := .tuple #[.slice none 0 0, .bool false]) (by simp [results, Tryz.results70, go_sem]) rfl ⟨freeRes_no HD.out, push hb1 _⟩

end Go.Proofs.YtaopapjnhlombaaGreat

namespace Go.Proofs.YtaopapjnhlombaaGreat
open Go.RowKit Classical

/-- What leftOn answers of a sailing and its load. -/
def OnV (s : Sail) (l : Load) (base ti : Nat) (e : Ending) (w : World) : Prop :=
  ∃ v1 v2, e = .returned (.tuple #[v1, v2, .int .i64 (s.most - sits l.se l.sen)]) ∧ w.ownsRow base ti 1 v1 s.la.n (intList (left s.la l.st l.stn) s.la.n) ∧ w.ownsRow base ti 1 v2 s.ca.n (intList (leftR s.ca l.ro l.ron) s.ca.n) ∧ ∀ b, v1.ownBlock = some b → v2.ownBlock ≠ some b

set_option maxHeartbeats 3200000 in
set_option maxRecDepth 100000 in
theorem leftOn_any (s : Sail) (l : Load) (la ca ast aro ase : Option Addr) (lc cc cst cro cse : Nat) (w : World) (hp : LoadOk s l) (hss : s.la.n ≤ 1048576 ∧ s.ca.n ≤ 1048576) (hlh : Load.Short l 1048576) (hla : PairsAt w la s.la) (hca : PairsAt w ca s.ca)
    (hst : StaysAt w ast l.stn l.st ∧ l.stn ≤ cst) (hro : RoomsAt w aro l.ron l.ro ∧ l.ron ≤ cro) (hse : SeatsAt w ase l.sen l.se ∧ l.sen ≤ cse) :
    Calls Tryz.prog 32 #[.agg #[.int .i64 s.id, .string s.fr, .string s.dst, .int .i64 s.dep, .int .i64 s.arr, .slice la s.la.n lc, .slice ca s.ca.n cc, .int .i64 s.most], .agg #[.slice ast l.stn cst, .slice aro l.ron cro, .slice ase l.sen cse]] w fun e w' => OnV s l w.heap.size 3 e w' ∧ Below w.heap.size w w' := by
  have HP : Hid (LoadOk s l) := hp
  have HSS : Hid (s.la.n ≤ 1048576 ∧ s.ca.n ≤ 1048576) := hss
  have HLH : Hid (Load.Short l 1048576) := hlh
  have HLA : Hid (PairsAt w la s.la) := hla
  have HCA : Hid (PairsAt w ca s.ca) := hca
  have HST : Hid (StaysAt w ast l.stn l.st ∧ l.stn ≤ cst) := hst
  have HRO : Hid (RoomsAt w aro l.ron l.ro ∧ l.ron ≤ cro) := hro
  have HSE : Hid (SeatsAt w ase l.sen l.se ∧ l.sen ≤ cse) := hse
  clear hp hss hlh hla hca hst hro hse
  have hb3 : Below w.heap.size w ((w.alloc (.cells #[.int .i64 s.id, .string s.fr, .string s.dst, .int .i64 s.dep, .int .i64 s.arr, .slice la s.la.n lc, .slice ca s.ca.n cc, .int .i64 s.most] 59)).alloc (.cells #[.slice ast l.stn cst, .slice aro l.ron cro, .slice ase l.sen cse] 64)) := push (push (Below.refl _ _) _) _
  have bS : ((w.alloc (.cells #[.int .i64 s.id, .string s.fr, .string s.dst, .int .i64 s.dep, .int .i64 s.arr, .slice la s.la.n lc, .slice ca s.ca.n cc, .int .i64 s.most] 59)).alloc (.cells #[.slice ast l.stn cst, .slice aro l.ron cro, .slice ase l.sen cse] 64)).heap[w.heap.size]? = some (.cells #[.int .i64 s.id, .string s.fr, .string s.dst, .int .i64 s.dep, .int .i64 s.arr, .slice la s.la.n lc, .slice ca s.ca.n cc, .int .i64 s.most] 59 (0, 0)) := blk_alloc (heap_alloc_new w _) _
  have bL : ((w.alloc (.cells #[.int .i64 s.id, .string s.fr, .string s.dst, .int .i64 s.dep, .int .i64 s.arr, .slice la s.la.n lc, .slice ca s.ca.n cc, .int .i64 s.most] 59)).alloc (.cells #[.slice ast l.stn cst, .slice aro l.ron cro, .slice ase l.sen cse] 64)).heap[w.heap.size + 1]? = some (.cells #[.slice ast l.stn cst, .slice aro l.ron cro, .slice ase l.sen cse] 64 (0, 0)) := by simpa using heap_alloc_new (w.alloc _) _
  go_enter Tryz.func32, Tryz.ntmps32
  go_wp2_with fail
  generalize (w.alloc (.cells #[.int .i64 s.id, .string s.fr, .string s.dst, .int .i64 s.dep, .int .i64 s.arr, .slice la s.la.n lc, .slice ca s.ca.n cc, .int .i64 s.most] 59)).alloc (.cells #[.slice ast l.stn cst, .slice aro l.ron cro, .slice ase l.sen cse] 64) = V at hb3 bS bL ⊢
  refine (implFree_any la ast s.la.n lc l.stn cst s.la l.st _ rfl HSS.out.1 HLH.out.1 HST.out.2 (HLA.out.below hb3) (HST.out.1.below hb3)).mono ?_
  rintro e W1 ⟨⟨v1, rfl, ho1⟩, hbv⟩
  rw [freeLen_yes ((deck_iff _ _ _).1 HP.out.1)] at ho1
  rw [deckOk_yes ((deck_iff _ _ _).1 HP.out.1)]
  have HO1 : Hid (W1.ownsRow w.heap.size 3 1 v1 s.la.n (intList (left s.la l.st l.stn) s.la.n)) := own_base ho1 hb3.size
  have bS1 := blk_below bS hbv
  have bL1 := blk_below bL hbv
  have hb4 := after hb3 hbv
  clear bS bL hb3 hbv ho1
  have s6 := blk_cell bS1 6 _ rfl
  have l1 := blk_cell bL1 1 _ rfl
  go_wp2_with fail
  refine (implBerths_any ca aro s.ca.n cc l.ron cro s.ca l.ro _ rfl HSS.out.2 HLH.out.2.1 HRO.out.2 (HCA.out.below hb4) (HRO.out.1.below hb4)).mono ?_
  rintro e W2 ⟨⟨v2, rfl, ho2⟩, hbv⟩
  rw [berthsLen_yes HP.out.2.1] at ho2
  rw [roomsOk_yes HP.out.2.1]
  have HO2 : Hid (W2.ownsRow w.heap.size 3 1 v2 s.ca.n (intList (leftR s.ca l.ro l.ron) s.ca.n)) := own_base ho2 hb4.size
  have HAP : Hid (∀ b, v1.ownBlock = some b → v2.ownBlock ≠ some b) := fun b h1 h2 => by
    have a := (HO1.out.lt b h1).2
    have c := (ho2.lt b h2).1
    omega
  have HO3 : Hid (W2.ownsRow w.heap.size 3 1 v1 s.la.n (intList (left s.la l.st l.stn) s.la.n)) := own_below hbv HO1.out
  have bS2 := blk_below bS1 hbv
  have bL2 := blk_below bL1 hbv
  have hb5 := after hb4 hbv
  clear bS1 bL1 hb4 hbv s6 l1 ho2 HO1
  have s7 := blk_cell bS2 7 _ rfl
  have l2 := blk_cell bL2 2 _ rfl
  go_wp2_with fail
  refine (freeSeats_any s.most ase l.sen cse l.se _ (by have := HLH.out.2.2; omega) HSE.out.2 (HSE.out.1.below hb5)).mono ?_
  rintro e W3 ⟨he, hbv⟩
  have he2 : e = .returned (.tuple #[.int .i64 (s.most - sits l.se l.sen), .bool true]) := by
    rcases he with ⟨_, rfl⟩ | ⟨h, _⟩
    · rfl
    · exact absurd HP.out.2.2 h
  subst he2
  clear he s7 l2 bS2 bL2
  go_wp2
  exact bodyPost_ret (v := .tuple #[v1, v2, .int .i64 (s.most - sits l.se l.sen)]) (by simp [results, Tryz.results32, go_sem]) rfl ⟨⟨v1, v2, rfl, own_below hbv HO3.out, own_below hbv HO2.out, HAP.out⟩, after hb5 hbv⟩

end Go.Proofs.YtaopapjnhlombaaGreat
