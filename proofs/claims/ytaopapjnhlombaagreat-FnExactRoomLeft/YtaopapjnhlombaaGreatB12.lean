/-
  OWN TEXT: PlainSe, PlainOff, SpecSt.
-/
import Derived.Deep.LoopGhost
import Derived.Deep.DeepCutAuto
import Derived.Test.YtaopapjnhlombaaGreatB04
import Derived.Test.YtaopapjnhlombaaGreatB11
import Derived.Test.YtaopapjnhlombaaGreatB10
import Derived.Test.YtaopapjnhlombaaGreatB08
import Derived.Test.YtaopapjnhlombaaGreatB05
namespace Go.Proofs.YtaopapjnhlombaaGreat
open Go.RowKit

/-- Who has the seats j. -/
def whoT (S : Nat → Seat) (j : Nat) : Int := (S j).who
/-- How many sit, the first i together. -/
def sits (S : Nat → Seat) : Nat → Int
  | 0 => 0
  | i + 1 => sits S i + (S i).many
/-- Seats are good for most. -/
def SeatsOk (most : Int) (n : Nat) (S : Nat → Seat) : Prop :=
  In most 0 500 ∧ n ≤ 60 ∧ (∀ i, i < n → In (S i).who 1 9999 ∧ ¬ Has (whoT S) i (S i).who ∧ In (S i).many 1 20) ∧ sits S n ≤ most
theorem sits_bounds (S : Nat → Seat) (i : Nat) (h : ∀ j, j < i → In (S j).many 1 20) : 0 ≤ sits S i ∧ sits S i ≤ 20 * i := by
  induction i with
  | zero => exact ⟨Int.le_refl _, by unfold sits; omega⟩
  | succ i ih =>
    have := ih (fun j hj => h j (by omega))
    have hi := h i (by omega)
    unfold In at hi
    unfold sits
    omega
/-- The seats with these behind them. -/
def seatsWith (S : Nat → Seat) (n : Nat) (x many : Int) : Nat → Seat := seatCat S n (fun _ => ⟨x, many⟩)
/-- TakeSeats takes them. -/
def SeatsTake (most : Int) (n : Nat) (S : Nat → Seat) (x many : Int) : Prop := SeatsOk most n S ∧ SeatsOk most (n + 1) (seatsWith S n x many)
open Classical in
noncomputable def takeSOk (most : Int) (n : Nat) (S : Nat → Seat) (x many : Int) : Bool := decide (SeatsTake most n S x many)
noncomputable def takeSLen (most : Int) (n : Nat) (S : Nat → Seat) (x many : Int) : Nat := if takeSOk most n S x many then n + 1 else 0
theorem takeSOk_yes {most : Int} {n : Nat} {S : Nat → Seat} {x many : Int} (h : SeatsTake most n S x many) : takeSOk most n S x many = true := by unfold takeSOk; simpa using h
theorem takeSOk_no {most : Int} {n : Nat} {S : Nat → Seat} {x many : Int} (h : ¬ SeatsTake most n S x many) : takeSOk most n S x many = false := by unfold takeSOk; simpa using h
theorem takeSLen_le (most : Int) (n : Nat) (S : Nat → Seat) (x many : Int) : takeSLen most n S x many ≤ 60 := by
  unfold takeSLen
  by_cases h : SeatsTake most n S x many
  · have := h.2.2.1
    rw [takeSOk_yes h]; simp; omega
  · rw [takeSOk_no h]; simp
def SeatsRes (w' : World) (base t : Nat) (most : Int) (n : Nat) (S : Nat → Seat) (x many : Int) (e : Ending) : Prop :=
  ∃ v, e = .returned (.tuple #[v, .bool (takeSOk most n S x many)]) ∧ w'.ownsRow base t 2 v (takeSLen most n S x many) (seatList (seatsWith S n x many) (takeSLen most n S x many))
theorem seatsRes_no {w : World} {base t : Nat} {most : Int} {n : Nat} {S : Nat → Seat} {x many : Int} (h : ¬ SeatsTake most n S x many) : SeatsRes w base t most n S x many (.returned (.tuple #[.slice none 0 0, .bool false])) := by
  refine ⟨.slice none 0 0, by rw [takeSOk_no h], ?_⟩
  unfold takeSLen; rw [takeSOk_no h]; exact ⟨rfl, .inl ⟨rfl, rfl⟩⟩
theorem seatsRes_yes {w : World} {base t : Nat} {most : Int} {n : Nat} {S : Nat → Seat} {x many : Int} {v : Value} (h : SeatsTake most n S x many)
    (ho : w.ownsRow base t 2 v (n + 1) (seatList (seatsWith S n x many) (n + 1))) : SeatsRes w base t most n S x many (.returned (.tuple #[v, .bool true])) := by
  refine ⟨v, by rw [takeSOk_yes h], ?_⟩
  unfold takeSLen; rw [takeSOk_yes h]; exact ho

end Go.Proofs.YtaopapjnhlombaaGreat

namespace Go.Proofs.YtaopapjnhlombaaGreat
open Go.RowKit

def Book.p (b : Book) : Party := ⟨b.pe, b.len, b.hei, b.cl, b.all, b.be⟩
def Live (b : Book) : Prop := b.state = 1 ∨ b.state = 2
instance (b : Book) : Decidable (Live b) := by unfold Live; exact inferInstance
def HasLeg (b : Book) (x : Int) : Prop := ∃ j, j < b.lgn ∧ b.lg j = x
def UntilB (b : Book) : Prop := if b.state = 1 ∨ b.state = 4 then In b.unt 0 10000 else b.unt = 0
instance (b : Book) : Decidable (UntilB b) := by unfold UntilB; exact inferInstance
/-- A booking is good, but for its loads. -/
def BookOk (o : Off) (i : Nat) : Prop :=
  (o.bk i).name = i + 1 ∧ In (o.bk i).who 1 9999 ∧ IsName (o.bk i).own ∧ LegsOk o.san o.sa (o.bk i).lgn (o.bk i).lg ∧ PartyOk (o.bk i).p ∧ In (o.bk i).state 1 4 ∧ In (o.bk i).price 0 1000000 ∧
    (∀ j, j < i → (o.bk j).who ≠ (o.bk i).who) ∧ UntilB (o.bk i)
def SeatIn (x : Load) (b : Book) (n : Nat) : Prop := ∃ j, j < n ∧ (x.se j).who = b.who ∧ (x.se j).many = b.pe
def StayIn (x : Load) (b : Book) (n : Nat) : Prop := ∃ j, j < n ∧ (x.st j).who = b.who ∧ (x.st j).len = b.len ∧ (x.st j).hei = b.hei
def RoomFits (s : Sail) (b : Book) (r : Room) : Prop := r.who = b.who ∧ r.all = b.all ∧ s.ca.A r.cab.toNat = b.cl ∧ (b.all = true ∨ r.many = b.be)
def RoomIn (s : Sail) (x : Load) (b : Book) (n : Nat) : Prop := ∃ j, j < n ∧ RoomFits s b (x.ro j)
/-- A booking stands in a load as it must. -/
def StandsB (s : Sail) (x : Load) (b : Book) : Prop := SeatIn x b x.sen ∧ (b.len = 0 ∨ StayIn x b x.stn) ∧ (b.cl = 0 ∨ RoomIn s x b x.ron)
open Classical in
/-- How many of the first n are so. -/
noncomputable def cnt (P : Nat → Prop) : Nat → Nat
  | 0 => 0
  | n + 1 => cnt P n + (if P n then 1 else 0)
theorem cnt_yes {P : Nat → Prop} {n : Nat} (h : P n) : cnt P (n + 1) = cnt P n + 1 := by rw [cnt, if_pos h]
theorem cnt_no {P : Nat → Prop} {n : Nat} (h : ¬ P n) : cnt P (n + 1) = cnt P n := by rw [cnt, if_neg h]; rfl
theorem cnt_le (P : Nat → Prop) (n : Nat) : cnt P n ≤ n := by
  induction n with
  | zero => exact Nat.le_refl _
  | succ n ih =>
    by_cases h : P n
    · rw [cnt_yes h]; omega
    · rw [cnt_no h]; omega
def LoadOk (s : Sail) (x : Load) : Prop := DeckS s.la x.stn x.st ∧ RoomsS s.ca x.ron x.ro ∧ SeatsOk s.most x.sen x.se
theorem rooms_cab {p : Pairs} {n : Nat} {S : Nat → Room} (h : RoomsS p n S) : ∀ j, j < n → 0 ≤ (S j).cab ∧ (S j).cab < p.n := fun j hj => by
  have := (h.2.2.1 j hj).1
  unfold OkR0 In at this
  omega
/-- The booking i is live and sails on the sailing k. -/
def On (o : Off) (k i : Nat) : Prop := Live (o.bk i) ∧ HasLeg (o.bk i) (o.sa k).id
def Tallies (o : Off) (k : Nat) : Prop :=
  (∀ i, i < o.bkn → On o k i → StandsB (o.sa k) (o.ld k) (o.bk i)) ∧ (o.ld k).stn = cnt (fun i => On o k i ∧ 0 < (o.bk i).len) o.bkn ∧ (o.ld k).ron = cnt (fun i => On o k i ∧ 0 < (o.bk i).cl) o.bkn ∧ (o.ld k).sen = cnt (On o k) o.bkn
/-- A good office. -/
def OffOk (o : Off) : Prop :=
  GoodTab o.san o.sa ∧ o.ldn = o.san ∧ o.bkn ≤ 30 ∧ (∀ k, k < o.san → LoadOk (o.sa k) (o.ld k)) ∧ (∀ i, i < o.bkn → BookOk o i) ∧ ∀ k, k < o.san → Tallies o k

end Go.Proofs.YtaopapjnhlombaaGreat

namespace Go.Proofs.YtaopapjnhlombaaGreat
open Go.RowKit

set_option maxHeartbeats 400000 in
theorem l7Live_any (b : Book) (alg : Option Addr) (clg : Nat) (w : World) :
    Calls Tryz.prog 59 #[.agg #[.int .i64 b.name, .int .i64 b.who, .string b.own, .slice alg b.lgn clg, .int .i64 b.pe, .int .i64 b.len, .int .i64 b.hei, .int .i64 b.cl, .bool b.all, .int .i64 b.be, .int .i64 b.state, .int .i64 b.unt, .int .i64 b.price]] w fun e w' => e = .returned (.bool (decide (Live b))) ∧ Below w.heap.size w w' := by
  obtain ⟨c, hc⟩ : ∃ c, c = decide (Live b) := ⟨_, rfl⟩
  rw [← hc]
  have HC : Hid (c = decide (Live b)) := hc
  clear hc
  by_cases h1 : b.state = 1
  · have e1 : (b.state == 1) = true := by simpa using h1
    have HR : Hid (c = true) := by rw [HC.out]; exact decide_eq_true (.inl h1)
    clear h1
    go_enter Tryz.func59, Tryz.ntmps59
    go_wp2
    go_ret
    exact ⟨by rw [HR.out]; rfl, push (Below.refl _ _) _⟩
  · have e1 : (b.state == 1) = false := by simpa using h1
    by_cases h2 : b.state = 2
    · have e2 : (b.state == 2) = true := by simpa using h2
      have HR : Hid (c = true) := by rw [HC.out]; exact decide_eq_true (.inr h2)
      clear h1 h2
      go_enter Tryz.func59, Tryz.ntmps59
      go_wp2
      go_ret
      exact ⟨by rw [HR.out]; rfl, push (Below.refl _ _) _⟩
    · have e2 : (b.state == 2) = false := by simpa using h2
      have HR : Hid (c = false) := by rw [HC.out]; exact decide_eq_false (fun h => by rcases h with h | h; exact h1 h; exact h2 h)
      clear h1 h2
      go_enter Tryz.func59, Tryz.ntmps59
      go_wp2
      go_ret
      exact ⟨by rw [HR.out]; rfl, push (Below.refl _ _) _⟩

theorem seatIn_succ {x : Load} {b : Book} {k : Nat} : SeatIn x b (k + 1) ↔ SeatIn x b k ∨ ((x.se k).who = b.who ∧ (x.se k).many = b.pe) :=
  ⟨fun ⟨j, hj, h⟩ => if e : j = k then .inr (by subst e; exact h) else .inl ⟨j, by omega, h⟩, fun h => by rcases h with ⟨j, hj, h⟩ | h; exact ⟨j, by omega, h⟩; exact ⟨k, by omega, h⟩⟩
theorem stayIn_succ {x : Load} {b : Book} {k : Nat} : StayIn x b (k + 1) ↔ StayIn x b k ∨ ((x.st k).who = b.who ∧ (x.st k).len = b.len ∧ (x.st k).hei = b.hei) :=
  ⟨fun ⟨j, hj, h⟩ => if e : j = k then .inr (by subst e; exact h) else .inl ⟨j, by omega, h⟩, fun h => by rcases h with ⟨j, hj, h⟩ | h; exact ⟨j, by omega, h⟩; exact ⟨k, by omega, h⟩⟩
theorem roomIn_succ {s : Sail} {x : Load} {b : Book} {k : Nat} : RoomIn s x b (k + 1) ↔ RoomIn s x b k ∨ RoomFits s b (x.ro k) :=
  ⟨fun ⟨j, hj, h⟩ => if e : j = k then .inr (by subst e; exact h) else .inl ⟨j, by omega, h⟩, fun h => by rcases h with ⟨j, hj, h⟩ | h; exact ⟨j, by omega, h⟩; exact ⟨k, by omega, h⟩⟩

set_option maxHeartbeats 6400000 in
set_option maxRecDepth 100000 in
theorem l7Stands_any (s : Sail) (la ca : Option Addr) (lc cc : Nat) (x : Load) (ast aro ase : Option Addr) (cst cro cse : Nat) (b : Book) (alg : Option Addr) (clg : Nat) (w : World)
    (hn1 : x.stn ≤ 1048576) (hn2 : x.ron ≤ 1048576) (hn3 : x.sen ≤ 1048576) (hca : PairsAt w ca s.ca) (hst : StaysAt w ast x.stn x.st) (hro : RoomsAt w aro x.ron x.ro) (hse : SeatsAt w ase x.sen x.se)
    (hcab : ∀ j, j < x.ron → 0 ≤ (x.ro j).cab ∧ (x.ro j).cab < s.ca.n) :
    Calls Tryz.prog 61 #[.agg #[.int .i64 s.id, .string s.fr, .string s.dst, .int .i64 s.dep, .int .i64 s.arr, .slice la s.la.n lc, .slice ca s.ca.n cc, .int .i64 s.most], .agg #[.slice ast x.stn cst, .slice aro x.ron cro, .slice ase x.sen cse], .agg #[.int .i64 b.name, .int .i64 b.who, .string b.own, .slice alg b.lgn clg, .int .i64 b.pe, .int .i64 b.len, .int .i64 b.hei, .int .i64 b.cl, .bool b.all, .int .i64 b.be, .int .i64 b.state, .int .i64 b.unt, .int .i64 b.price]] w fun e w' => SaysIf (StandsB s x b) e ∧ Below w.heap.size w w' := by
  have HCA : Hid (PairsAt w ca s.ca) := hca
  have HST : Hid (StaysAt w ast x.stn x.st) := hst
  have HRO : Hid (RoomsAt w aro x.ron x.ro) := hro
  have HSE : Hid (SeatsAt w ase x.sen x.se) := hse
  have HCB : Hid (∀ j, j < x.ron → 0 ≤ (x.ro j).cab ∧ (x.ro j).cab < s.ca.n) := hcab
  clear hca hst hro hse hcab
  go_enter Tryz.func61, Tryz.ntmps61
  go_wp2
  obtain ⟨W, hW⟩ : ∃ W, W = (((w.alloc (.cells #[.int .i64 s.id, .string s.fr, .string s.dst, .int .i64 s.dep, .int .i64 s.arr, .slice la s.la.n lc, .slice ca s.ca.n cc, .int .i64 s.most] 59)).alloc (.cells #[.slice ast x.stn cst, .slice aro x.ron cro, .slice ase x.sen cse] 64)).alloc (.cells #[.int .i64 b.name, .int .i64 b.who, .string b.own, .slice alg b.lgn clg, .int .i64 b.pe, .int .i64 b.len, .int .i64 b.hei, .int .i64 b.cl, .bool b.all, .int .i64 b.be, .int .i64 b.state, .int .i64 b.unt, .int .i64 b.price] 87)).alloc (.cells #[.int .i64 b.pe, .int .i64 b.len, .int .i64 b.hei, .int .i64 b.cl, .bool b.all, .int .i64 b.be] 85) := ⟨_, rfl⟩
  have bS : W.heap[w.heap.size]? = some (.cells #[.int .i64 s.id, .string s.fr, .string s.dst, .int .i64 s.dep, .int .i64 s.arr, .slice la s.la.n lc, .slice ca s.ca.n cc, .int .i64 s.most] 59 (0, 0)) := by rw [hW]; exact blk_alloc (blk_alloc (blk_alloc (heap_alloc_new w _) _) _) _
  have bL : W.heap[w.heap.size + 1]? = some (.cells #[.slice ast x.stn cst, .slice aro x.ron cro, .slice ase x.sen cse] 64 (0, 0)) := by rw [hW]; exact blk_alloc (blk_alloc (by simpa using heap_alloc_new (w.alloc _) _) _) _
  have bB : W.heap[w.heap.size + 1 + 1]? = some (.cells #[.int .i64 b.name, .int .i64 b.who, .string b.own, .slice alg b.lgn clg, .int .i64 b.pe, .int .i64 b.len, .int .i64 b.hei, .int .i64 b.cl, .bool b.all, .int .i64 b.be, .int .i64 b.state, .int .i64 b.unt, .int .i64 b.price] 87 (0, 0)) := by rw [hW]; exact blk_alloc (by simpa using heap_alloc_new ((w.alloc _).alloc _) _) _
  have bP : W.heap[w.heap.size + 1 + 1 + 1]? = some (.cells #[.int .i64 b.pe, .int .i64 b.len, .int .i64 b.hei, .int .i64 b.cl, .bool b.all, .int .i64 b.be] 85 (0, 0)) := by rw [hW]; simpa using heap_alloc_new (((w.alloc _).alloc _).alloc _) _
  have hbW : Below w.heap.size w W := by rw [hW]; exact push (push (push (push (Below.refl _ _) _) _) _) _
  rw [← hW]
  clear hW
  have hnil : ∀ y : Load, ¬ SeatIn y b 0 := fun y ⟨j, hj, _⟩ => absurd hj (Nat.not_lt_zero _)
  go_loopw [8, 10, 22] (fun v _ i wr => ∃ (k : Nat) (c : Bool), k ≤ x.sen ∧ i = .int .i64 k ∧ v = .bool c ∧ (c = true ↔ SeatIn x b k) ∧ Below W.heap.size W wr) (fun _ _ i _ => x.sen - (intOf i).toNat)
  case atStart => exact ⟨0, false, Nat.zero_le _, rfl, rfl, ⟨fun h => (by cases h), fun h => absurd h (hnil x)⟩, Below.refl _ _⟩
  case round =>
    obtain ⟨k, c, hk, rfl, rfl, hcc, hbel⟩ := hrel
    have HC : Hid (c = true ↔ SeatIn x b k) := hcc
    clear hcc
    have bB1 : ∀ o, (wr.alloc o).cell? ⟨w.heap.size + 1 + 1, 1, none⟩ = some (.int .i64 b.who) := fun o => blk_cell (blk_alloc (blk_below bB hbel) o) 1 _ rfl
    have bP0 : ∀ o, (wr.alloc o).cell? ⟨w.heap.size + 1 + 1 + 1, 0, none⟩ = some (.int .i64 b.pe) := fun o => blk_cell (blk_alloc (blk_below bP hbel) o) 0 _ rfl
    by_cases hlt : k < x.sen
    · obtain ⟨sb, so, rfl, g1, g2⟩ := HSE.out k hlt
      have hlb := World.block_lt_of_cell? w _ g1
      have d1 := ((after hbW hbel).cell (p := ⟨sb, so + k * 2, none⟩) hlb).trans g1
      have d2 := ((after hbW hbel).cell (p := ⟨sb, so + k * 2 + 1, none⟩) hlb).trans g2
      clear g1 g2
      cases c with
      | true =>
        go_wp2
        go_roundw
        case rel => exact ⟨k + 1, true, by omega, by go_num, rfl, ⟨fun _ => seatIn_succ.2 (.inl (HC.out.1 rfl)), fun _ => rfl⟩, push hbel _⟩
        case measure => simp [intOf]; omega
      | false =>
        have HN : Hid (¬ SeatIn x b k) := fun h => by have := HC.out.2 h; cases this
        clear HC
        by_cases e1 : (x.se k).who = b.who
        · by_cases e2 : (x.se k).many = b.pe
          · have HY : Hid (SeatIn x b (k + 1)) := seatIn_succ.2 (.inr ⟨e1, e2⟩)
            go_wp2
            go_roundw
            case rel => exact ⟨k + 1, true, by omega, by go_num, rfl, ⟨fun _ => HY.out, fun _ => rfl⟩, push hbel _⟩
            case measure => simp [intOf]; omega
          · have HNN : Hid (¬ SeatIn x b (k + 1)) := fun h => by rcases seatIn_succ.1 h with h | h; exact HN.out h; exact e2 h.2
            go_wp2
            go_roundw
            case rel => exact ⟨k + 1, false, by omega, by go_num, rfl, ⟨fun h => (by cases h), fun h => absurd h HNN.out⟩, push hbel _⟩
            case measure => simp [intOf]; omega
        · have HNN : Hid (¬ SeatIn x b (k + 1)) := fun h => by rcases seatIn_succ.1 h with h | h; exact HN.out h; exact e1 h.1
          go_wp2
          go_roundw
          case rel => exact ⟨k + 1, false, by omega, by go_num, rfl, ⟨fun h => (by cases h), fun h => absurd h HNN.out⟩, push hbel _⟩
          case measure => simp [intOf]; omega
    · obtain rfl : k = x.sen := by omega
      clear bB1 bP0
      have HB1 : Hid (Below W.heap.size W wr) := hbel
      have HBW : Hid (Below w.heap.size w W) := hbW
      have bL0 := blk_cell (blk_below bL hbel) 0 _ rfl
      have bP1 := blk_cell (blk_below bP hbel) 1 _ rfl
      clear hbel hbW hk hlt hnil
      obtain ⟨z1, hz1⟩ : ∃ z, z = (b.len == 0) := ⟨_, rfl⟩
      have ez1 : (b.len == 0) = z1 := hz1.symm
      have HZ1 : Hid (z1 = true ↔ b.len = 0) := by show z1 = true ↔ b.len = 0; rw [hz1, beq_iff_eq]
      clear hz1
      go_wp2
      go_loopw [11, 13, 43] (fun v _ i wq => ∃ (k : Nat) (c : Bool), k ≤ x.stn ∧ i = .int .i64 k ∧ v = .bool c ∧ (c = true ↔ b.len = 0 ∨ StayIn x b k) ∧ Below W.heap.size W wq) (fun _ _ i _ => x.stn - (intOf i).toNat)
      case atStart => exact ⟨0, z1, Nat.zero_le _, rfl, rfl, ⟨fun h => .inl (HZ1.out.1 h), fun h => by rcases h with h | ⟨j, hj, _⟩; exact HZ1.out.2 h; exact absurd hj (Nat.not_lt_zero _)⟩, HB1.out⟩
      case round =>
        obtain ⟨k, c2, hk, rfl, rfl, hcc, hbel⟩ := hrel
        have HC2 : Hid (c2 = true ↔ b.len = 0 ∨ StayIn x b k) := hcc
        clear hcc bL0 bP1 ez1 HZ1
        by_cases hlt : k < x.stn
        · obtain ⟨sb, so, rfl, g1, g2, g3, g4⟩ := HST.out k hlt
          have hlb := World.block_lt_of_cell? w _ g1
          have hbw := after HBW.out hbel
          have d1 := (hbw.cell (p := ⟨sb, so + k * 4, none⟩) hlb).trans g1
          have d2 := (hbw.cell (p := ⟨sb, so + k * 4 + 1, none⟩) hlb).trans g2
          have d3 := (hbw.cell (p := ⟨sb, so + k * 4 + 2, none⟩) hlb).trans g3
          have d4 := (hbw.cell (p := ⟨sb, so + k * 4 + 3, none⟩) hlb).trans g4
          have bB1 : ∀ o, (wr.alloc o).cell? ⟨w.heap.size + 1 + 1, 1, none⟩ = some (.int .i64 b.who) := fun o => blk_cell (blk_alloc (blk_below bB hbel) o) 1 _ rfl
          have bP1 : ∀ o, (wr.alloc o).cell? ⟨w.heap.size + 1 + 1 + 1, 1, none⟩ = some (.int .i64 b.len) := fun o => blk_cell (blk_alloc (blk_below bP hbel) o) 1 _ rfl
          have bP2 : ∀ o, (wr.alloc o).cell? ⟨w.heap.size + 1 + 1 + 1, 2, none⟩ = some (.int .i64 b.hei) := fun o => blk_cell (blk_alloc (blk_below bP hbel) o) 2 _ rfl
          clear g1 g2 g3 g4 hbw
          cases c2 with
          | true =>
            go_wp2
            go_roundw
            case rel => exact ⟨k + 1, true, by omega, by go_num, rfl, ⟨fun _ => (HC2.out.1 rfl).imp id (fun h => stayIn_succ.2 (.inl h)), fun _ => rfl⟩, push hbel _⟩
            case measure => simp [intOf]; omega
          | false =>
            have HN : Hid (¬ (b.len = 0 ∨ StayIn x b k)) := fun h => by have := HC2.out.2 h; cases this
            clear HC2
            by_cases e1 : (x.st k).who = b.who
            · have e1' : ((x.st k).who == b.who) = true := by simpa using e1
              by_cases e2 : (x.st k).len = b.len
              · have e2' : ((x.st k).len == b.len) = true := by simpa using e2
                by_cases e3 : (x.st k).hei = b.hei
                · have e3' : ((x.st k).hei == b.hei) = true := by simpa using e3
                  have HY : Hid (b.len = 0 ∨ StayIn x b (k + 1)) := .inr (stayIn_succ.2 (.inr ⟨e1, e2, e3⟩))
                  clear e1 e2 e3
                  go_wp2
                  go_roundw
                  case rel => exact ⟨k + 1, true, by omega, by go_num, rfl, ⟨fun _ => HY.out, fun _ => rfl⟩, push hbel _⟩
                  case measure => simp [intOf]; omega
                · have e3' : ((x.st k).hei == b.hei) = false := by simpa using e3
                  have HNN : Hid (¬ (b.len = 0 ∨ StayIn x b (k + 1))) := fun h => by rcases h with h | h; exact HN.out (.inl h); rcases stayIn_succ.1 h with h | h; exact HN.out (.inr h); exact e3 h.2.2
                  clear e1 e2 e3
                  go_wp2
                  go_roundw
                  case rel => exact ⟨k + 1, false, by omega, by go_num, rfl, ⟨fun h => (by cases h), fun h => absurd h HNN.out⟩, push hbel _⟩
                  case measure => simp [intOf]; omega
              · have e2' : ((x.st k).len == b.len) = false := by simpa using e2
                have HNN : Hid (¬ (b.len = 0 ∨ StayIn x b (k + 1))) := fun h => by rcases h with h | h; exact HN.out (.inl h); rcases stayIn_succ.1 h with h | h; exact HN.out (.inr h); exact e2 h.2.1
                clear e1 e2
                go_wp2
                go_roundw
                case rel => exact ⟨k + 1, false, by omega, by go_num, rfl, ⟨fun h => (by cases h), fun h => absurd h HNN.out⟩, push hbel _⟩
                case measure => simp [intOf]; omega
            · have e1' : ((x.st k).who == b.who) = false := by simpa using e1
              have HNN : Hid (¬ (b.len = 0 ∨ StayIn x b (k + 1))) := fun h => by rcases h with h | h; exact HN.out (.inl h); rcases stayIn_succ.1 h with h | h; exact HN.out (.inr h); exact e1 h.1
              clear e1
              go_wp2
              go_roundw
              case rel => exact ⟨k + 1, false, by omega, by go_num, rfl, ⟨fun h => (by cases h), fun h => absurd h HNN.out⟩, push hbel _⟩
              case measure => simp [intOf]; omega
        · obtain rfl : k = x.stn := by omega
          have HB2 : Hid (Below W.heap.size W wr) := hbel
          have bL1 := blk_cell (blk_below bL hbel) 1 _ rfl
          have bP3 := blk_cell (blk_below bP hbel) 3 _ rfl
          clear hbel hk hlt
          obtain ⟨z1, hz1⟩ : ∃ z, z = (b.cl == 0) := ⟨_, rfl⟩
          have ez1 : (b.cl == 0) = z1 := hz1.symm
          have HZ1 : Hid (z1 = true ↔ b.cl = 0) := by show z1 = true ↔ b.cl = 0; rw [hz1, beq_iff_eq]
          clear hz1
          go_wp2
          go_loopw [14, 16, 76] (fun v _ i wq => ∃ (k : Nat) (c : Bool), k ≤ x.ron ∧ i = .int .i64 k ∧ v = .bool c ∧ (c = true ↔ b.cl = 0 ∨ RoomIn s x b k) ∧ Below W.heap.size W wq) (fun _ _ i _ => x.ron - (intOf i).toNat)
          case atStart => exact ⟨0, z1, Nat.zero_le _, rfl, rfl, ⟨fun h => .inl (HZ1.out.1 h), fun h => by rcases h with h | ⟨j, hj, _⟩; exact HZ1.out.2 h; exact absurd hj (Nat.not_lt_zero _)⟩, HB2.out⟩
          case round =>
            obtain ⟨k, c3, hk, rfl, rfl, hcc, hbel⟩ := hrel
            have HC3 : Hid (c3 = true ↔ b.cl = 0 ∨ RoomIn s x b k) := hcc
            clear hcc bL1 bP3 ez1 HZ1
            by_cases hlt : k < x.ron
            · obtain ⟨sb, so, rfl, g1, g2, g3, g4⟩ := HRO.out k hlt
              have hlb := World.block_lt_of_cell? w _ g1
              have hbw := after HBW.out hbel
              have d1 := (hbw.cell (p := ⟨sb, so + k * 4, none⟩) hlb).trans g1
              have d2 := (hbw.cell (p := ⟨sb, so + k * 4 + 1, none⟩) hlb).trans g2
              have d3 := (hbw.cell (p := ⟨sb, so + k * 4 + 2, none⟩) hlb).trans g3
              have d4 := (hbw.cell (p := ⟨sb, so + k * 4 + 3, none⟩) hlb).trans g4
              obtain ⟨i0, i1⟩ := HCB.out k hlt
              obtain ⟨cb, co, rfl, k1, k2⟩ := HCA.out (x.ro k).cab.toNat (by omega)
              have hlc := World.block_lt_of_cell? w _ k1
              have c1 : ∀ o, (wr.alloc o).cell? ⟨cb, co + (x.ro k).cab.toNat * 2, none⟩ = some (.int .i64 (s.ca.A (x.ro k).cab.toNat)) := fun o => (((hbw.alloc hbw.size o).cell (p := ⟨cb, co + (x.ro k).cab.toNat * 2, none⟩) hlc)).trans k1
              have bB1 : ∀ o, (wr.alloc o).cell? ⟨w.heap.size + 1 + 1, 1, none⟩ = some (.int .i64 b.who) := fun o => blk_cell (blk_alloc (blk_below bB hbel) o) 1 _ rfl
              have bP3 : ∀ o, (wr.alloc o).cell? ⟨w.heap.size + 1 + 1 + 1, 3, none⟩ = some (.int .i64 b.cl) := fun o => blk_cell (blk_alloc (blk_below bP hbel) o) 3 _ rfl
              obtain ⟨q, hq⟩ : ∃ q, q = b.all := ⟨_, rfl⟩
              have HQ : Hid (q = b.all) := hq
              have bP4 : ∀ o, (wr.alloc o).cell? ⟨w.heap.size + 1 + 1 + 1, 4, none⟩ = some (.bool q) := fun o => by rw [hq]; exact blk_cell (blk_alloc (blk_below bP hbel) o) 4 _ rfl
              clear hq
              have bP5 : ∀ o, (wr.alloc o).cell? ⟨w.heap.size + 1 + 1 + 1, 5, none⟩ = some (.int .i64 b.be) := fun o => blk_cell (blk_alloc (blk_below bP hbel) o) 5 _ rfl
              have bS6 : ∀ o, (wr.alloc o).cell? ⟨w.heap.size, 6, none⟩ = some (.slice (some ⟨cb, co, none⟩) s.ca.n cc) := fun o => blk_cell (blk_alloc (blk_below bS hbel) o) 6 _ rfl
              clear g1 g2 g3 g4 k1 k2 hbw
              cases c3 with
              | true =>
                go_wp2
                go_quiet (fail)
                go_wp2
                go_roundw
                case rel => exact ⟨k + 1, true, by omega, by go_num, rfl, ⟨fun _ => (HC3.out.1 (by simp)).imp id (fun h => roomIn_succ.2 (.inl h)), fun _ => rfl⟩, below_drewN (push hbel _) _⟩
                case measure => simp [intOf]; omega
              | false =>
                have HN : Hid (¬ (b.cl = 0 ∨ RoomIn s x b k)) := fun h => by have := HC3.out.2 h; cases this
                clear HC3
                by_cases e1 : (x.ro k).who = b.who
                · have e1' : ((x.ro k).who == b.who) = true := by simpa using e1
                  by_cases e2 : (x.ro k).all = q
                  · have e2' : ((x.ro k).all == q) = true := by simpa using e2
                    by_cases e3 : s.ca.A (x.ro k).cab.toNat = b.cl
                    · have e3' : (s.ca.A (x.ro k).cab.toNat == b.cl) = true := by simpa using e3
                      by_cases e4 : q = true
                      · have e2a : (x.ro k).all = true := e2.trans e4
                        have HY : Hid (b.cl = 0 ∨ RoomIn s x b (k + 1)) := .inr (roomIn_succ.2 (.inr ⟨e1, e2.trans HQ.out, e3, .inl (HQ.out.symm.trans e4)⟩))
                        clear e1 e2 e3 e2'
                        go_wp2
                        go_quiet (fail)
                        go_wp2
                        go_roundw
                        case rel => exact ⟨k + 1, true, by omega, by go_num, rfl, ⟨fun _ => HY.out, fun _ => rfl⟩, below_drewN (push hbel _) _⟩
                        case measure => simp [intOf]; omega
                      · have e4' : q = false := by cases h : q; rfl; exact absurd h e4
                        have e2a : (x.ro k).all = false := e2.trans e4'
                        by_cases e5 : (x.ro k).many = b.be
                        · have e5' : ((x.ro k).many == b.be) = true := by simpa using e5
                          have HY : Hid (b.cl = 0 ∨ RoomIn s x b (k + 1)) := .inr (roomIn_succ.2 (.inr ⟨e1, e2.trans HQ.out, e3, .inr e5⟩))
                          clear e1 e2 e3 e4 e5 e2'
                          go_wp2
                          go_quiet (fail)
                          go_wp2
                          go_roundw
                          case rel => exact ⟨k + 1, true, by omega, by go_num, rfl, ⟨fun _ => HY.out, fun _ => rfl⟩, below_drewN (push hbel _) _⟩
                          case measure => simp [intOf]; omega
                        · have e5' : ((x.ro k).many == b.be) = false := by simpa using e5
                          have HNN : Hid (¬ (b.cl = 0 ∨ RoomIn s x b (k + 1))) := fun h => by rcases h with h | h; exact HN.out (.inl h); rcases roomIn_succ.1 h with h | h; exact HN.out (.inr h); exact (by rcases h.2.2.2 with h | h; exact e4 (HQ.out.trans h); exact e5 h)
                          clear e1 e2 e3 e4 e5 e2'
                          go_wp2
                          go_quiet (fail)
                          go_wp2
                          go_roundw
                          case rel => exact ⟨k + 1, false, by omega, by go_num, rfl, ⟨fun h => (by cases h), fun h => absurd h HNN.out⟩, below_drewN (push hbel _) _⟩
                          case measure => simp [intOf]; omega
                    · have e3' : (s.ca.A (x.ro k).cab.toNat == b.cl) = false := by simpa using e3
                      have HNN : Hid (¬ (b.cl = 0 ∨ RoomIn s x b (k + 1))) := fun h => by rcases h with h | h; exact HN.out (.inl h); rcases roomIn_succ.1 h with h | h; exact HN.out (.inr h); exact e3 h.2.2.1
                      clear e1 e2 e3
                      go_wp2
                      go_quiet (fail)
                      go_wp2
                      go_roundw
                      case rel => exact ⟨k + 1, false, by omega, by go_num, rfl, ⟨fun h => (by cases h), fun h => absurd h HNN.out⟩, below_drewN (push hbel _) _⟩
                      case measure => simp [intOf]; omega
                  · have e2' : ((x.ro k).all == q) = false := by simpa using e2
                    have HNN : Hid (¬ (b.cl = 0 ∨ RoomIn s x b (k + 1))) := fun h => by rcases h with h | h; exact HN.out (.inl h); rcases roomIn_succ.1 h with h | h; exact HN.out (.inr h); exact e2 (h.2.1.trans HQ.out.symm)
                    clear e1 e2
                    go_wp2
                    go_quiet (fail)
                    go_wp2
                    go_roundw
                    case rel => exact ⟨k + 1, false, by omega, by go_num, rfl, ⟨fun h => (by cases h), fun h => absurd h HNN.out⟩, below_drewN (push hbel _) _⟩
                    case measure => simp [intOf]; omega
                · have e1' : ((x.ro k).who == b.who) = false := by simpa using e1
                  have HNN : Hid (¬ (b.cl = 0 ∨ RoomIn s x b (k + 1))) := fun h => by rcases h with h | h; exact HN.out (.inl h); rcases roomIn_succ.1 h with h | h; exact HN.out (.inr h); exact e1 h.1
                  clear e1
                  go_wp2
                  go_quiet (fail)
                  go_wp2
                  go_roundw
                  case rel => exact ⟨k + 1, false, by omega, by go_num, rfl, ⟨fun h => (by cases h), fun h => absurd h HNN.out⟩, below_drewN (push hbel _) _⟩
                  case measure => simp [intOf]; omega
            · obtain rfl : k = x.ron := by omega
              have HF : Hid (Below w.heap.size w wr) := after HBW.out hbel
              have HS : Hid (StandsB s x b ↔ c = true ∧ c2 = true ∧ c3 = true) := by
                show StandsB s x b ↔ c = true ∧ c2 = true ∧ c3 = true
                unfold StandsB
                rw [HC.out, HC2.out, HC3.out]
              clear hbel hk hlt HC HC2 HC3
              cases c with
              | false =>
                go_wp2
                go_ret
                exact ⟨says_no (fun h => by have h := HS.out.1 h; simp at h), HF.out⟩
              | true =>
                cases c2 with
                | false =>
                  go_wp2
                  go_ret
                  exact ⟨says_no (fun h => by have h := HS.out.1 h; simp at h), HF.out⟩
                | true =>
                  cases c3 with
                  | false =>
                    go_wp2
                    go_ret
                    exact ⟨says_no (fun h => by have h := HS.out.1 h; simp at h), HF.out⟩
                  | true =>
                    go_wp2
                    go_ret
                    exact ⟨says_yes (HS.out.2 (by simp)), HF.out⟩

end Go.Proofs.YtaopapjnhlombaaGreat
