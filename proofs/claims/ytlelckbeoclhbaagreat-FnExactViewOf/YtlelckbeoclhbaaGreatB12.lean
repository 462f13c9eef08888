/-
  OWN TEXT: PlainRows, SpecSt, SpecIn, SpecIn3.
-/
import Derived.Deep.LoopGhost
import Derived.Deep.DeepCutAuto
import Derived.Test.YtlelckbeoclhbaaGreatRows
import Derived.Deep.RegionHeld3
import Derived.Test.YtlelckbeoclhbaaGreatB11
import Derived.Test.YtlelckbeoclhbaaGreatB02
import Derived.Test.YtlelckbeoclhbaaGreatB07
import Derived.Test.YtlelckbeoclhbaaGreatB00
import Derived.Test.YtlelckbeoclhbaaGreatB06
set_option maxHeartbeats 12800000
set_option maxRecDepth 100000
namespace Go.Proofs.YtlelckbeoclhbaaGreat
open Go.RowKit Classical
def lastLn (S : Nat → Stay) (q : Int) : Nat → Int
  | 0 => -1
  | n + 1 => if (S n).who = q then (S n).ln else lastLn S q n
def lastCab (S : Nat → Room) (q : Int) : Nat → Int
  | 0 => -1
  | n + 1 => if (S n).who = q then (S n).cab else lastCab S q n
def rowOf (l : Load) (b : Book) : MRow := ⟨b.name, b.own, b.pe, lastLn l.st b.who l.stn, lastCab l.ro b.who l.ron⟩
def OnZ (b : Book) (z : Int) : Prop := Live b ∧ HasLeg b z
noncomputable def rowsL (l : Load) (S : Nat → Book) (z : Int) : Nat → List MRow
  | 0 => []
  | n + 1 => if OnZ (S n) z then rowsL l S z n ++ [rowOf l (S n)] else rowsL l S z n
theorem rowsL_yes {l : Load} {S : Nat → Book} {z : Int} {n : Nat} (h : OnZ (S n) z) : rowsL l S z (n + 1) = rowsL l S z n ++ [rowOf l (S n)] := by rw [rowsL, if_pos h]
theorem rowsL_no {l : Load} {S : Nat → Book} {z : Int} {n : Nat} (h : ¬ OnZ (S n) z) : rowsL l S z (n + 1) = rowsL l S z n := by rw [rowsL, if_neg h]
theorem rowsL_le (l : Load) (S : Nat → Book) (z : Int) (n : Nat) : (rowsL l S z n).length ≤ n := by
  induction n with
  | zero => exact Nat.le_refl _
  | succ n ih =>
    by_cases h : OnZ (S n) z
    · rw [rowsL_yes h, List.length_append]; simp; omega
    · rw [rowsL_no h]; omega
def nthR (l : List MRow) (j : Nat) : MRow := l.getD j MRow.zero
theorem rowList_snoc (l : List MRow) (r : MRow) : rowList (nthR (l ++ [r])) (l.length + 1) = rowList (nthR l) l.length ++ [.int .i64 r.name, .string r.own, .int .i64 r.pe, .int .i64 r.ln, .int .i64 r.cab] := by
  rw [rowList_succ]
  have e1 : nthR (l ++ [r]) l.length = r := by simp [nthR]
  have e2 : rowList (nthR (l ++ [r])) l.length = rowList (nthR l) l.length := rowList_congr (fun i hi => by unfold nthR; rw [List.getD_eq_getElem?_getD, List.getD_eq_getElem?_getD, List.getElem?_append_left hi])
  rw [e1, e2]
end Go.Proofs.YtlelckbeoclhbaaGreat

namespace Go.Proofs.YtlelckbeoclhbaaGreat
open Go.RowKit
theorem l7Live_any (b : Book) (alg : Option Addr) (clg : Nat) (w : World) :
    Calls Tryz.prog 53 #[.agg #[.int .i64 b.name, .int .i64 b.who, .string b.own, .slice alg b.lgn clg, .int .i64 b.pe, .int .i64 b.len, .int .i64 b.hei, .int .i64 b.cl, .bool b.all, .int .i64 b.be, .int .i64 b.state, .int .i64 b.unt, .int .i64 b.price]] w fun e w' => e = .returned (.bool (decide (Live b))) ∧ Below w.heap.size w w' := by
  obtain ⟨c, hc⟩ : ∃ c, c = decide (Live b) := ⟨_, rfl⟩
  rw [← hc]
  have HC : Hid (c = decide (Live b)) := hc
  clear hc
  by_cases h1 : b.state = 1
  · have e1 : (b.state == 1) = true := by simpa using h1
    have HR : Hid (c = true) := by rw [HC.out]; exact decide_eq_true (.inl h1)
    clear h1
    go_enter Tryz.func53, Tryz.ntmps53
    go_wp2
    go_ret
    exact ⟨by rw [HR.out]; rfl, push (Below.refl _ _) _⟩
  · have e1 : (b.state == 1) = false := by simpa using h1
    by_cases h2 : b.state = 2
    · have e2 : (b.state == 2) = true := by simpa using h2
      have HR : Hid (c = true) := by rw [HC.out]; exact decide_eq_true (.inr h2)
      clear h1 h2
      go_enter Tryz.func53, Tryz.ntmps53
      go_wp2
      go_ret
      exact ⟨by rw [HR.out]; rfl, push (Below.refl _ _) _⟩
    · have e2 : (b.state == 2) = false := by simpa using h2
      have HR : Hid (c = false) := by rw [HC.out]; exact decide_eq_false (fun h => by rcases h with h | h; exact h1 h; exact h2 h)
      clear h1 h2
      go_enter Tryz.func53, Tryz.ntmps53
      go_wp2
      go_ret
      exact ⟨by rw [HR.out]; rfl, push (Below.refl _ _) _⟩
theorem seatIn_succ {x : Load} {b : Book} {k : Nat} : SeatIn x b (k + 1) ↔ SeatIn x b k ∨ ((x.se k).who = b.who ∧ (x.se k).many = b.pe) :=
  ⟨fun ⟨j, hj, h⟩ => if e : j = k then .inr (by subst e; exact h) else .inl ⟨j, by omega, h⟩, fun h => by rcases h with ⟨j, hj, h⟩ | h; exact ⟨j, by omega, h⟩; exact ⟨k, by omega, h⟩⟩
theorem stayIn_succ {x : Load} {b : Book} {k : Nat} : StayIn x b (k + 1) ↔ StayIn x b k ∨ ((x.st k).who = b.who ∧ (x.st k).len = b.len ∧ (x.st k).hei = b.hei) :=
  ⟨fun ⟨j, hj, h⟩ => if e : j = k then .inr (by subst e; exact h) else .inl ⟨j, by omega, h⟩, fun h => by rcases h with ⟨j, hj, h⟩ | h; exact ⟨j, by omega, h⟩; exact ⟨k, by omega, h⟩⟩
theorem roomIn_succ {s : Sail} {x : Load} {b : Book} {k : Nat} : RoomIn s x b (k + 1) ↔ RoomIn s x b k ∨ RoomFits s b (x.ro k) :=
  ⟨fun ⟨j, hj, h⟩ => if e : j = k then .inr (by subst e; exact h) else .inl ⟨j, by omega, h⟩, fun h => by rcases h with ⟨j, hj, h⟩ | h; exact ⟨j, by omega, h⟩; exact ⟨k, by omega, h⟩⟩
theorem l7Stands_any (s : Sail) (la ca : Option Addr) (lc cc : Nat) (x : Load) (ast aro ase : Option Addr) (cst cro cse : Nat) (b : Book) (alg : Option Addr) (clg : Nat) (w : World)
    (hn1 : x.stn ≤ 1048576) (hn2 : x.ron ≤ 1048576) (hn3 : x.sen ≤ 1048576) (hca : PairsAt w ca s.ca) (hst : StaysAt w ast x.stn x.st) (hro : RoomsAt w aro x.ron x.ro) (hse : SeatsAt w ase x.sen x.se)
    (hcab : ∀ j, j < x.ron → 0 ≤ (x.ro j).cab ∧ (x.ro j).cab < s.ca.n) :
    Calls Tryz.prog 55 #[.agg #[.int .i64 s.id, .string s.fr, .string s.dst, .int .i64 s.dep, .int .i64 s.arr, .slice la s.la.n lc, .slice ca s.ca.n cc, .int .i64 s.most], .agg #[.slice ast x.stn cst, .slice aro x.ron cro, .slice ase x.sen cse], .agg #[.int .i64 b.name, .int .i64 b.who, .string b.own, .slice alg b.lgn clg, .int .i64 b.pe, .int .i64 b.len, .int .i64 b.hei, .int .i64 b.cl, .bool b.all, .int .i64 b.be, .int .i64 b.state, .int .i64 b.unt, .int .i64 b.price]] w fun e w' => SaysIf (StandsB s x b) e ∧ Below w.heap.size w w' := by
  have HCA : Hid (PairsAt w ca s.ca) := hca
  have HST : Hid (StaysAt w ast x.stn x.st) := hst
  have HRO : Hid (RoomsAt w aro x.ron x.ro) := hro
  have HSE : Hid (SeatsAt w ase x.sen x.se) := hse
  have HCB : Hid (∀ j, j < x.ron → 0 ≤ (x.ro j).cab ∧ (x.ro j).cab < s.ca.n) := hcab
  clear hca hst hro hse hcab
  go_enter Tryz.func55, Tryz.ntmps55
  go_wp2
  obtain ⟨W, hW⟩ : ∃ W, W = (((w.alloc (.cells #[.int .i64 s.id, .string s.fr, .string s.dst, .int .i64 s.dep, .int .i64 s.arr, .slice la s.la.n lc, .slice ca s.ca.n cc, .int .i64 s.most] 54)).alloc (.cells #[.slice ast x.stn cst, .slice aro x.ron cro, .slice ase x.sen cse] 62)).alloc (.cells #[.int .i64 b.name, .int .i64 b.who, .string b.own, .slice alg b.lgn clg, .int .i64 b.pe, .int .i64 b.len, .int .i64 b.hei, .int .i64 b.cl, .bool b.all, .int .i64 b.be, .int .i64 b.state, .int .i64 b.unt, .int .i64 b.price] 72)).alloc (.cells #[.int .i64 b.pe, .int .i64 b.len, .int .i64 b.hei, .int .i64 b.cl, .bool b.all, .int .i64 b.be] 70) := ⟨_, rfl⟩
  have bS : W.heap[w.heap.size]? = some (.cells #[.int .i64 s.id, .string s.fr, .string s.dst, .int .i64 s.dep, .int .i64 s.arr, .slice la s.la.n lc, .slice ca s.ca.n cc, .int .i64 s.most] 54 (0, 0)) := by rw [hW]; exact blk_alloc (blk_alloc (blk_alloc (heap_alloc_new w _) _) _) _
  have bL : W.heap[w.heap.size + 1]? = some (.cells #[.slice ast x.stn cst, .slice aro x.ron cro, .slice ase x.sen cse] 62 (0, 0)) := by rw [hW]; exact blk_alloc (blk_alloc (by simpa using heap_alloc_new (w.alloc _) _) _) _
  have bB : W.heap[w.heap.size + 1 + 1]? = some (.cells #[.int .i64 b.name, .int .i64 b.who, .string b.own, .slice alg b.lgn clg, .int .i64 b.pe, .int .i64 b.len, .int .i64 b.hei, .int .i64 b.cl, .bool b.all, .int .i64 b.be, .int .i64 b.state, .int .i64 b.unt, .int .i64 b.price] 72 (0, 0)) := by rw [hW]; exact blk_alloc (by simpa using heap_alloc_new ((w.alloc _).alloc _) _) _
  have bP : W.heap[w.heap.size + 1 + 1 + 1]? = some (.cells #[.int .i64 b.pe, .int .i64 b.len, .int .i64 b.hei, .int .i64 b.cl, .bool b.all, .int .i64 b.be] 70 (0, 0)) := by rw [hW]; simpa using heap_alloc_new (((w.alloc _).alloc _).alloc _) _
  have hbW : Below w.heap.size w W := by rw [hW]; exact push (push (push (push (Below.refl _ _) _) _) _) _
  rw [← hW]
  clear hW
  have hnil : ∀ y : Load, ¬ SeatIn y b 0 := fun y ⟨j, hj, _⟩ => absurd hj (Nat.not_lt_zero _)
  go_loopw [8, 10, 22] (fun v _ i wr => ∃ (k : Nat) (c : Bool), k ≤ x.sen ∧ i = .int .i64 k ∧ v = .bool c ∧ (c = true ↔ SeatIn x b k) ∧ Below W.heap.size W wr) (fun _ _ i _ => x.sen - (intOf i).toNat)
  case atStart => exact ⟨0, false, Nat.zero_le _, rfl, rfl, ⟨fun h => (by cases h), fun h => absurd h (hnil x)⟩, Below.refl _ _⟩
  case round =>
    obtain ⟨k, c, hk, rfl, rfl, hcc, hbel⟩ := hrel
    have HC : Hid (c = true ↔ SeatIn x b k) := hcc
    clear hcc
    have bB1 : ∀ o, (wr.alloc o).cell? ⟨w.heap.size + 1 + 1, 1, none⟩ = some (.int .i64 b.who) := fun o => blk_cell (blk_alloc (blk_below bB hbel) o) 1 _ rfl
    have bP0 : ∀ o, (wr.alloc o).cell? ⟨w.heap.size + 1 + 1 + 1, 0, none⟩ = some (.int .i64 b.pe) := fun o => blk_cell (blk_alloc (blk_below bP hbel) o) 0 _ rfl
    by_cases hlt : k < x.sen
    · obtain ⟨sb, so, rfl, g1, g2⟩ := HSE.out k hlt
      have hlb := World.block_lt_of_cell? w _ g1
      have d1 := ((after hbW hbel).cell (p := ⟨sb, so + k * 2, none⟩) hlb).trans g1
      have d2 := ((after hbW hbel).cell (p := ⟨sb, so + k * 2 + 1, none⟩) hlb).trans g2
      clear g1 g2
      cases c with
      | true =>
        go_wp2
        go_roundw
        case rel => exact ⟨k + 1, true, by omega, by go_num, rfl, ⟨fun _ => seatIn_succ.2 (.inl (HC.out.1 rfl)), fun _ => rfl⟩, push hbel _⟩
        case measure => simp [intOf]; omega
      | false =>
        have HN : Hid (¬ SeatIn x b k) := fun h => by have := HC.out.2 h; cases this
        clear HC
        by_cases e1 : (x.se k).who = b.who
        · by_cases e2 : (x.se k).many = b.pe
          · have HY : Hid (SeatIn x b (k + 1)) := seatIn_succ.2 (.inr ⟨e1, e2⟩)
            go_wp2
            go_roundw
            case rel => exact ⟨k + 1, true, by omega, by go_num, rfl, ⟨fun _ => HY.out, fun _ => rfl⟩, push hbel _⟩
            case measure => simp [intOf]; omega
          · have HNN : Hid (¬ SeatIn x b (k + 1)) := fun h => by rcases seatIn_succ.1 h with h | h; exact HN.out h; exact e2 h.2
            go_wp2
            go_roundw
            case rel => exact ⟨k + 1, false, by omega, by go_num, rfl, ⟨fun h => (by cases h), fun h => absurd h HNN.out⟩, push hbel _⟩
            case measure => simp [intOf]; omega
        · have HNN : Hid (¬ SeatIn x b (k + 1)) := fun h => by rcases seatIn_succ.1 h with h | h; exact HN.out h; exact e1 h.1
          go_wp2
          go_roundw
          case rel => exact ⟨k + 1, false, by omega, by go_num, rfl, ⟨fun h => (by cases h), fun h => absurd h HNN.out⟩, push hbel _⟩
          case measure => simp [intOf]; omega
    · obtain rfl : k = x.sen := by omega
      clear bB1 bP0
      have HB1 : Hid (Below W.heap.size W wr) := hbel
      have HBW : Hid (Below w.heap.size w W) := hbW
      have bL0 := blk_cell (blk_below bL hbel) 0 _ rfl
      have bP1 := blk_cell (blk_below bP hbel) 1 _ rfl
      clear hbel hbW hk hlt hnil
      obtain ⟨z1, hz1⟩ : ∃ z, z = (b.len == 0) := ⟨_, rfl⟩
      have ez1 : (b.len == 0) = z1 := hz1.symm
      have HZ1 : Hid (z1 = true ↔ b.len = 0) := by show z1 = true ↔ b.len = 0; rw [hz1, beq_iff_eq]
      clear hz1
      go_wp2
      go_loopw [11, 13, 43] (fun v _ i wq => ∃ (k : Nat) (c : Bool), k ≤ x.stn ∧ i = .int .i64 k ∧ v = .bool c ∧ (c = true ↔ b.len = 0 ∨ StayIn x b k) ∧ Below W.heap.size W wq) (fun _ _ i _ => x.stn - (intOf i).toNat)
      case atStart => exact ⟨0, z1, Nat.zero_le _, rfl, rfl, ⟨fun h => .inl (HZ1.out.1 h), fun h => by rcases h with h | ⟨j, hj, _⟩; exact HZ1.out.2 h; exact absurd hj (Nat.not_lt_zero _)⟩, HB1.out⟩
      case round =>
        obtain ⟨k, c2, hk, rfl, rfl, hcc, hbel⟩ := hrel
        have HC2 : Hid (c2 = true ↔ b.len = 0 ∨ StayIn x b k) := hcc
        clear hcc bL0 bP1 ez1 HZ1
        by_cases hlt : k < x.stn
        · obtain ⟨sb, so, rfl, g1, g2, g3, g4⟩ := HST.out k hlt
          have hlb := World.block_lt_of_cell? w _ g1
          have hbw := after HBW.out hbel
          have d1 := (hbw.cell (p := ⟨sb, so + k * 4, none⟩) hlb).trans g1
          have d2 := (hbw.cell (p := ⟨sb, so + k * 4 + 1, none⟩) hlb).trans g2
          have d3 := (hbw.cell (p := ⟨sb, so + k * 4 + 2, none⟩) hlb).trans g3
          have d4 := (hbw.cell (p := ⟨sb, so + k * 4 + 3, none⟩) hlb).trans g4
          have bB1 : ∀ o, (wr.alloc o).cell? ⟨w.heap.size + 1 + 1, 1, none⟩ = some (.int .i64 b.who) := fun o => blk_cell (blk_alloc (blk_below bB hbel) o) 1 _ rfl
          have bP1 : ∀ o, (wr.alloc o).cell? ⟨w.heap.size + 1 + 1 + 1, 1, none⟩ = some (.int .i64 b.len) := fun o => blk_cell (blk_alloc (blk_below bP hbel) o) 1 _ rfl
          have bP2 : ∀ o, (wr.alloc o).cell? ⟨w.heap.size + 1 + 1 + 1, 2, none⟩ = some (.int .i64 b.hei) := fun o => blk_cell (blk_alloc (blk_below bP hbel) o) 2 _ rfl
          clear g1 g2 g3 g4 hbw
          cases c2 with
          | true =>
            go_wp2
            go_roundw
            case rel => exact ⟨k + 1, true, by omega, by go_num, rfl, ⟨fun _ => (HC2.out.1 rfl).imp id (fun h => stayIn_succ.2 (.inl h)), fun _ => rfl⟩, push hbel _⟩
            case measure => simp [intOf]; omega
          | false =>
            have HN : Hid (¬ (b.len = 0 ∨ StayIn x b k)) := fun h => by have := HC2.out.2 h; cases this
            clear HC2
            by_cases e1 : (x.st k).who = b.who
            · have e1' : ((x.st k).who == b.who) = true := by simpa using e1
              by_cases e2 : (x.st k).len = b.len
              · have e2' : ((x.st k).len == b.len) = true := by simpa using e2
                by_cases e3 : (x.st k).hei = b.hei
                · have e3' : ((x.st k).hei == b.hei) = true := by simpa using e3
                  have HY : Hid (b.len = 0 ∨ StayIn x b (k + 1)) := .inr (stayIn_succ.2 (.inr ⟨e1, e2, e3⟩))
                  clear e1 e2 e3
                  go_wp2
                  go_roundw
                  case rel => exact ⟨k + 1, true, by omega, by go_num, rfl, ⟨fun _ => HY.out, fun _ => rfl⟩, push hbel _⟩
                  case measure => simp [intOf]; omega
                · have e3' : ((x.st k).hei == b.hei) = false := by simpa using e3
                  have HNN : Hid (¬ (b.len = 0 ∨ StayIn x b (k + 1))) := fun h => by rcases h with h | h; exact HN.out (.inl h); rcases stayIn_succ.1 h with h | h; exact HN.out (.inr h); exact e3 h.2.2
                  clear e1 e2 e3
                  go_wp2
                  go_roundw
                  case rel => exact ⟨k + 1, false, by omega, by go_num, rfl, ⟨fun h => (by cases h), fun h => absurd h HNN.out⟩, push hbel _⟩
                  case measure => simp [intOf]; omega
              · have e2' : ((x.st k).len == b.len) = false := by simpa using e2
                have HNN : Hid (¬ (b.len = 0 ∨ StayIn x b (k + 1))) := fun h => by rcases h with h | h; exact HN.out (.inl h); rcases stayIn_succ.1 h with h | h; exact HN.out (.inr h); exact e2 h.2.1
                clear e1 e2
                go_wp2
                go_roundw
                case rel => exact ⟨k + 1, false, by omega, by go_num, rfl, ⟨fun h => (by cases h), fun h => absurd h HNN.out⟩, push hbel _⟩
                case measure => simp [intOf]; omega
            · have e1' : ((x.st k).who == b.who) = false := by simpa using e1
              have HNN : Hid (¬ (b.len = 0 ∨ StayIn x b (k + 1))) := fun h => by rcases h with h | h; exact HN.out (.inl h); rcases stayIn_succ.1 h with h | h; exact HN.out (.inr h); exact e1 h.1
              clear e1
              go_wp2
              go_roundw
              case rel => exact ⟨k + 1, false, by omega, by go_num, rfl, ⟨fun h => (by cases h), fun h => absurd h HNN.out⟩, push hbel _⟩
              case measure => simp [intOf]; omega
        · obtain rfl : k = x.stn := by omega
          have HB2 : Hid (Below W.heap.size W wr) := hbel
          have bL1 := blk_cell (blk_below bL hbel) 1 _ rfl
          have bP3 := blk_cell (blk_below bP hbel) 3 _ rfl
          clear hbel hk hlt
          obtain ⟨z1, hz1⟩ : ∃ z, z = (b.cl == 0) := ⟨_, rfl⟩
          have ez1 : (b.cl == 0) = z1 := hz1.symm
          have HZ1 : Hid (z1 = true ↔ b.cl = 0) := by show z1 = true ↔ b.cl = 0; rw [hz1, beq_iff_eq]
          clear hz1
          go_wp2
          go_loopw [14, 16, 76] (fun v _ i wq => ∃ (k : Nat) (c : Bool), k ≤ x.ron ∧ i = .int .i64 k ∧ v = .bool c ∧ (c = true ↔ b.cl = 0 ∨ RoomIn s x b k) ∧ Below W.heap.size W wq) (fun _ _ i _ => x.ron - (intOf i).toNat)
          case atStart => exact ⟨0, z1, Nat.zero_le _, rfl, rfl, ⟨fun h => .inl (HZ1.out.1 h), fun h => by rcases h with h | ⟨j, hj, _⟩; exact HZ1.out.2 h; exact absurd hj (Nat.not_lt_zero _)⟩, HB2.out⟩
          case round =>
            obtain ⟨k, c3, hk, rfl, rfl, hcc, hbel⟩ := hrel
            have HC3 : Hid (c3 = true ↔ b.cl = 0 ∨ RoomIn s x b k) := hcc
            clear hcc bL1 bP3 ez1 HZ1
            by_cases hlt : k < x.ron
            · obtain ⟨sb, so, rfl, g1, g2, g3, g4⟩ := HRO.out k hlt
              have hlb := World.block_lt_of_cell? w _ g1
              have hbw := after HBW.out hbel
              have d1 := (hbw.cell (p := ⟨sb, so + k * 4, none⟩) hlb).trans g1
              have d2 := (hbw.cell (p := ⟨sb, so + k * 4 + 1, none⟩) hlb).trans g2
              have d3 := (hbw.cell (p := ⟨sb, so + k * 4 + 2, none⟩) hlb).trans g3
              have d4 := (hbw.cell (p := ⟨sb, so + k * 4 + 3, none⟩) hlb).trans g4
              obtain ⟨i0, i1⟩ := HCB.out k hlt
              obtain ⟨cb, co, rfl, k1, k2⟩ := HCA.out (x.ro k).cab.toNat (by omega)
              have hlc := World.block_lt_of_cell? w _ k1
              have c1 : ∀ o, (wr.alloc o).cell? ⟨cb, co + (x.ro k).cab.toNat * 2, none⟩ = some (.int .i64 (s.ca.A (x.ro k).cab.toNat)) := fun o => (((hbw.alloc hbw.size o).cell (p := ⟨cb, co + (x.ro k).cab.toNat * 2, none⟩) hlc)).trans k1
              have bB1 : ∀ o, (wr.alloc o).cell? ⟨w.heap.size + 1 + 1, 1, none⟩ = some (.int .i64 b.who) := fun o => blk_cell (blk_alloc (blk_below bB hbel) o) 1 _ rfl
              have bP3 : ∀ o, (wr.alloc o).cell? ⟨w.heap.size + 1 + 1 + 1, 3, none⟩ = some (.int .i64 b.cl) := fun o => blk_cell (blk_alloc (blk_below bP hbel) o) 3 _ rfl
              obtain ⟨q, hq⟩ : ∃ q, q = b.all := ⟨_, rfl⟩
              have HQ : Hid (q = b.all) := hq
              have bP4 : ∀ o, (wr.alloc o).cell? ⟨w.heap.size + 1 + 1 + 1, 4, none⟩ = some (.bool q) := fun o => by rw [hq]; exact blk_cell (blk_alloc (blk_below bP hbel) o) 4 _ rfl
              clear hq
              have bP5 : ∀ o, (wr.alloc o).cell? ⟨w.heap.size + 1 + 1 + 1, 5, none⟩ = some (.int .i64 b.be) := fun o => blk_cell (blk_alloc (blk_below bP hbel) o) 5 _ rfl
              have bS6 : ∀ o, (wr.alloc o).cell? ⟨w.heap.size, 6, none⟩ = some (.slice (some ⟨cb, co, none⟩) s.ca.n cc) := fun o => blk_cell (blk_alloc (blk_below bS hbel) o) 6 _ rfl
              clear g1 g2 g3 g4 k1 k2 hbw
              cases c3 with
              | true =>
                go_wp2
                go_quiet (fail)
                go_wp2
                go_roundw
                case rel => exact ⟨k + 1, true, by omega, by go_num, rfl, ⟨fun _ => (HC3.out.1 (by simp)).imp id (fun h => roomIn_succ.2 (.inl h)), fun _ => rfl⟩, below_drewN (push hbel _) _⟩
                case measure => simp [intOf]; omega
              | false =>
                have HN : Hid (¬ (b.cl = 0 ∨ RoomIn s x b k)) := fun h => by have := HC3.out.2 h; cases this
                clear HC3
                by_cases e1 : (x.ro k).who = b.who
                · have e1' : ((x.ro k).who == b.who) = true := by simpa using e1
                  by_cases e2 : (x.ro k).all = q
                  · have e2' : ((x.ro k).all == q) = true := by simpa using e2
                    by_cases e3 : s.ca.A (x.ro k).cab.toNat = b.cl
                    · have e3' : (s.ca.A (x.ro k).cab.toNat == b.cl) = true := by simpa using e3
                      by_cases e4 : q = true
                      · have e2a : (x.ro k).all = true := e2.trans e4
                        have HY : Hid (b.cl = 0 ∨ RoomIn s x b (k + 1)) := .inr (roomIn_succ.2 (.inr ⟨e1, e2.trans HQ.out, e3, .inl (HQ.out.symm.trans e4)⟩))
                        clear e1 e2 e3 e2'
                        go_wp2
                        go_quiet (fail)
                        go_wp2
                        go_roundw
                        case rel => exact ⟨k + 1, true, by omega, by go_num, rfl, ⟨fun _ => HY.out, fun _ => rfl⟩, below_drewN (push hbel _) _⟩
                        case measure => simp [intOf]; omega
                      · have e4' : q = false := by cases h : q; rfl; exact absurd h e4
                        have e2a : (x.ro k).all = false := e2.trans e4'
                        by_cases e5 : (x.ro k).many = b.be
                        · have e5' : ((x.ro k).many == b.be) = true := by simpa using e5
                          have HY : Hid (b.cl = 0 ∨ RoomIn s x b (k + 1)) := .inr (roomIn_succ.2 (.inr ⟨e1, e2.trans HQ.out, e3, .inr e5⟩))
                          clear e1 e2 e3 e4 e5 e2'
                          go_wp2
                          go_quiet (fail)
                          go_wp2
                          go_roundw
                          case rel => exact ⟨k + 1, true, by omega, by go_num, rfl, ⟨fun _ => HY.out, fun _ => rfl⟩, below_drewN (push hbel _) _⟩
                          case measure => simp [intOf]; omega
                        · have e5' : ((x.ro k).many == b.be) = false := by simpa using e5
                          have HNN : Hid (¬ (b.cl = 0 ∨ RoomIn s x b (k + 1))) := fun h => by rcases h with h | h; exact HN.out (.inl h); rcases roomIn_succ.1 h with h | h; exact HN.out (.inr h); exact (by rcases h.2.2.2 with h | h; exact e4 (HQ.out.trans h); exact e5 h)
                          clear e1 e2 e3 e4 e5 e2'
                          go_wp2
                          go_quiet (fail)
                          go_wp2
                          go_roundw
                          case rel => exact ⟨k + 1, false, by omega, by go_num, rfl, ⟨fun h => (by cases h), fun h => absurd h HNN.out⟩, below_drewN (push hbel _) _⟩
                          case measure => simp [intOf]; omega
                    · have e3' : (s.ca.A (x.ro k).cab.toNat == b.cl) = false := by simpa using e3
                      have HNN : Hid (¬ (b.cl = 0 ∨ RoomIn s x b (k + 1))) := fun h => by rcases h with h | h; exact HN.out (.inl h); rcases roomIn_succ.1 h with h | h; exact HN.out (.inr h); exact e3 h.2.2.1
                      clear e1 e2 e3
                      go_wp2
                      go_quiet (fail)
                      go_wp2
                      go_roundw
                      case rel => exact ⟨k + 1, false, by omega, by go_num, rfl, ⟨fun h => (by cases h), fun h => absurd h HNN.out⟩, below_drewN (push hbel _) _⟩
                      case measure => simp [intOf]; omega
                  · have e2' : ((x.ro k).all == q) = false := by simpa using e2
                    have HNN : Hid (¬ (b.cl = 0 ∨ RoomIn s x b (k + 1))) := fun h => by rcases h with h | h; exact HN.out (.inl h); rcases roomIn_succ.1 h with h | h; exact HN.out (.inr h); exact e2 (h.2.1.trans HQ.out.symm)
                    clear e1 e2
                    go_wp2
                    go_quiet (fail)
                    go_wp2
                    go_roundw
                    case rel => exact ⟨k + 1, false, by omega, by go_num, rfl, ⟨fun h => (by cases h), fun h => absurd h HNN.out⟩, below_drewN (push hbel _) _⟩
                    case measure => simp [intOf]; omega
                · have e1' : ((x.ro k).who == b.who) = false := by simpa using e1
                  have HNN : Hid (¬ (b.cl = 0 ∨ RoomIn s x b (k + 1))) := fun h => by rcases h with h | h; exact HN.out (.inl h); rcases roomIn_succ.1 h with h | h; exact HN.out (.inr h); exact e1 h.1
                  clear e1
                  go_wp2
                  go_quiet (fail)
                  go_wp2
                  go_roundw
                  case rel => exact ⟨k + 1, false, by omega, by go_num, rfl, ⟨fun h => (by cases h), fun h => absurd h HNN.out⟩, below_drewN (push hbel _) _⟩
                  case measure => simp [intOf]; omega
            · obtain rfl : k = x.ron := by omega
              have HF : Hid (Below w.heap.size w wr) := after HBW.out hbel
              have HS : Hid (StandsB s x b ↔ c = true ∧ c2 = true ∧ c3 = true) := by
                show StandsB s x b ↔ c = true ∧ c2 = true ∧ c3 = true
                unfold StandsB
                rw [HC.out, HC2.out, HC3.out]
              clear hbel hk hlt HC HC2 HC3
              cases c with
              | false =>
                go_wp2
                go_ret
                exact ⟨says_no (fun h => by have h := HS.out.1 h; simp at h), HF.out⟩
              | true =>
                cases c2 with
                | false =>
                  go_wp2
                  go_ret
                  exact ⟨says_no (fun h => by have h := HS.out.1 h; simp at h), HF.out⟩
                | true =>
                  cases c3 with
                  | false =>
                    go_wp2
                    go_ret
                    exact ⟨says_no (fun h => by have h := HS.out.1 h; simp at h), HF.out⟩
                  | true =>
                    go_wp2
                    go_ret
                    exact ⟨says_yes (HS.out.2 (by simp)), HF.out⟩
end Go.Proofs.YtlelckbeoclhbaaGreat

namespace Go.Proofs.YtlelckbeoclhbaaGreat
open Go.RowKit
theorem l1In_yes (x lo hi : Int) (w : World) (h1 : lo ≤ x) (h2 : x ≤ hi) :
    Calls Tryz.prog 91 #[.int .i64 x, .int .i64 lo, .int .i64 hi] w fun e w' => e = .returned (.bool true) ∧ w' = w := by
  have e1 : decide (lo ≤ x) = true := by simpa using h1
  have e2 : decide (x ≤ hi) = true := by simpa using h2
  go_enter Tryz.func91, Tryz.ntmps91
  go_wp2
  go_ret
  exact ⟨rfl, rfl⟩
theorem l1In_low (x lo hi : Int) (w : World) (h1 : x < lo) :
    Calls Tryz.prog 91 #[.int .i64 x, .int .i64 lo, .int .i64 hi] w fun e w' => e = .returned (.bool false) ∧ w' = w := by
  have e1 : decide (lo ≤ x) = false := by simpa using h1
  go_enter Tryz.func91, Tryz.ntmps91
  go_wp2
  go_ret
  exact ⟨rfl, rfl⟩
theorem l1In_high (x lo hi : Int) (w : World) (h1 : lo ≤ x) (h2 : hi < x) :
    Calls Tryz.prog 91 #[.int .i64 x, .int .i64 lo, .int .i64 hi] w fun e w' => e = .returned (.bool false) ∧ w' = w := by
  have e1 : decide (lo ≤ x) = true := by simpa using h1
  have e2 : decide (x ≤ hi) = false := by simpa using h2
  go_enter Tryz.func91, Tryz.ntmps91
  go_wp2
  go_ret
  exact ⟨rfl, rfl⟩
theorem l1In_no (x lo hi : Int) (w : World) (h : ¬ (lo ≤ x ∧ x ≤ hi)) :
    Calls Tryz.prog 91 #[.int .i64 x, .int .i64 lo, .int .i64 hi] w fun e w' => e = .returned (.bool false) ∧ w' = w := by
  by_cases h1 : lo ≤ x
  · exact l1In_high x lo hi w h1 (by omega)
  · exact l1In_low x lo hi w (by omega)
end Go.Proofs.YtlelckbeoclhbaaGreat

namespace Go.Proofs.YtlelckbeoclhbaaGreat
open Go.RowKit
theorem l1In_is (x lo hi : Int) (w : World) :
    Calls Tryz.prog 91 #[.int .i64 x, .int .i64 lo, .int .i64 hi] w fun e w' => e = .returned (.bool (decide (In x lo hi))) ∧ w' = w := by
  by_cases h : In x lo hi
  · rw [decide_eq_true h]; exact l1In_yes x lo hi w h.1 h.2
  · rw [decide_eq_false h]; exact l1In_no x lo hi w h
end Go.Proofs.YtlelckbeoclhbaaGreat
