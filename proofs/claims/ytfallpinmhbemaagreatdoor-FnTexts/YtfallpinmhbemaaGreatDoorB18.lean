/-
  OWN TEXT: SpecSt, SpecNf, SpecOa, SpecOb, SpecOd.
-/
import Derived.Deep.LoopGhost
import Derived.Deep.DeepCutAuto
import Derived.Test.YtfallpinmhbemaaGreatDoorB09
import Derived.Test.YtfallpinmhbemaaGreatDoorB08
import Derived.Test.YtfallpinmhbemaaGreatDoorB15
import Derived.Test.YtfallpinmhbemaaGreatDoorB12
namespace Go.Proofs.YtfallpinmhbemaaGreatDoor
open Go.RowKit

set_option maxHeartbeats 400000 in
theorem l7Live_any (b : Book) (alg : Option Addr) (clg : Nat) (w : World) :
    Calls Tryz.prog 116 #[.agg #[.int .i64 b.name, .int .i64 b.who, .string b.own, .slice alg b.lgn clg, .int .i64 b.pe, .int .i64 b.len, .int .i64 b.hei, .int .i64 b.cl, .bool b.all, .int .i64 b.be, .int .i64 b.state, .int .i64 b.unt, .int .i64 b.price]] w fun e w' => e = .returned (.bool (decide (Live b))) ∧ Below w.heap.size w w' := by
  obtain ⟨c, hc⟩ : ∃ c, c = decide (Live b) := ⟨_, rfl⟩
  rw [← hc]
  have HC : Hid (c = decide (Live b)) := hc
  clear hc
  by_cases h1 : b.state = 1
  · have e1 : (b.state == 1) = true := by simpa using h1
    have HR : Hid (c = true) := by rw [HC.out]; exact decide_eq_true (.inl h1)
    clear h1
    go_enter Tryz.func116, Tryz.ntmps116
    go_wp2
    go_ret
    exact ⟨by rw [HR.out]; rfl, push (Below.refl _ _) _⟩
  · have e1 : (b.state == 1) = false := by simpa using h1
    by_cases h2 : b.state = 2
    · have e2 : (b.state == 2) = true := by simpa using h2
      have HR : Hid (c = true) := by rw [HC.out]; exact decide_eq_true (.inr h2)
      clear h1 h2
      go_enter Tryz.func116, Tryz.ntmps116
      go_wp2
      go_ret
      exact ⟨by rw [HR.out]; rfl, push (Below.refl _ _) _⟩
    · have e2 : (b.state == 2) = false := by simpa using h2
      have HR : Hid (c = false) := by rw [HC.out]; exact decide_eq_false (fun h => by rcases h with h | h; exact h1 h; exact h2 h)
      clear h1 h2
      go_enter Tryz.func116, Tryz.ntmps116
      go_wp2
      go_ret
      exact ⟨by rw [HR.out]; rfl, push (Below.refl _ _) _⟩

theorem seatIn_succ {x : Load} {b : Book} {k : Nat} : SeatIn x b (k + 1) ↔ SeatIn x b k ∨ ((x.se k).who = b.who ∧ (x.se k).many = b.pe) :=
  ⟨fun ⟨j, hj, h⟩ => if e : j = k then .inr (by subst e; exact h) else .inl ⟨j, by omega, h⟩, fun h => by rcases h with ⟨j, hj, h⟩ | h; exact ⟨j, by omega, h⟩; exact ⟨k, by omega, h⟩⟩
theorem stayIn_succ {x : Load} {b : Book} {k : Nat} : StayIn x b (k + 1) ↔ StayIn x b k ∨ ((x.st k).who = b.who ∧ (x.st k).len = b.len ∧ (x.st k).hei = b.hei) :=
  ⟨fun ⟨j, hj, h⟩ => if e : j = k then .inr (by subst e; exact h) else .inl ⟨j, by omega, h⟩, fun h => by rcases h with ⟨j, hj, h⟩ | h; exact ⟨j, by omega, h⟩; exact ⟨k, by omega, h⟩⟩
theorem roomIn_succ {s : Sail} {x : Load} {b : Book} {k : Nat} : RoomIn s x b (k + 1) ↔ RoomIn s x b k ∨ RoomFits s b (x.ro k) :=
  ⟨fun ⟨j, hj, h⟩ => if e : j = k then .inr (by subst e; exact h) else .inl ⟨j, by omega, h⟩, fun h => by rcases h with ⟨j, hj, h⟩ | h; exact ⟨j, by omega, h⟩; exact ⟨k, by omega, h⟩⟩

set_option maxHeartbeats 6400000 in
set_option maxRecDepth 100000 in
theorem l7Stands_any (s : Sail) (la ca : Option Addr) (lc cc : Nat) (x : Load) (ast aro ase : Option Addr) (cst cro cse : Nat) (b : Book) (alg : Option Addr) (clg : Nat) (w : World)
    (hn1 : x.stn ≤ 1048576) (hn2 : x.ron ≤ 1048576) (hn3 : x.sen ≤ 1048576) (hca : PairsAt w ca s.ca) (hst : StaysAt w ast x.stn x.st) (hro : RoomsAt w aro x.ron x.ro) (hse : SeatsAt w ase x.sen x.se)
    (hcab : ∀ j, j < x.ron → 0 ≤ (x.ro j).cab ∧ (x.ro j).cab < s.ca.n) :
    Calls Tryz.prog 118 #[.agg #[.int .i64 s.id, .string s.fr, .string s.dst, .int .i64 s.dep, .int .i64 s.arr, .slice la s.la.n lc, .slice ca s.ca.n cc, .int .i64 s.most], .agg #[.slice ast x.stn cst, .slice aro x.ron cro, .slice ase x.sen cse], .agg #[.int .i64 b.name, .int .i64 b.who, .string b.own, .slice alg b.lgn clg, .int .i64 b.pe, .int .i64 b.len, .int .i64 b.hei, .int .i64 b.cl, .bool b.all, .int .i64 b.be, .int .i64 b.state, .int .i64 b.unt, .int .i64 b.price]] w fun e w' => SaysIf (StandsB s x b) e ∧ Below w.heap.size w w' := by
  have HCA : Hid (PairsAt w ca s.ca) := hca
  have HST : Hid (StaysAt w ast x.stn x.st) := hst
  have HRO : Hid (RoomsAt w aro x.ron x.ro) := hro
  have HSE : Hid (SeatsAt w ase x.sen x.se) := hse
  have HCB : Hid (∀ j, j < x.ron → 0 ≤ (x.ro j).cab ∧ (x.ro j).cab < s.ca.n) := hcab
  clear hca hst hro hse hcab
  go_enter Tryz.func118, Tryz.ntmps118
  go_wp2
  obtain ⟨W, hW⟩ : ∃ W, W = (((w.alloc (.cells #[.int .i64 s.id, .string s.fr, .string s.dst, .int .i64 s.dep, .int .i64 s.arr, .slice la s.la.n lc, .slice ca s.ca.n cc, .int .i64 s.most] 37)).alloc (.cells #[.slice ast x.stn cst, .slice aro x.ron cro, .slice ase x.sen cse] 136)).alloc (.cells #[.int .i64 b.name, .int .i64 b.who, .string b.own, .slice alg b.lgn clg, .int .i64 b.pe, .int .i64 b.len, .int .i64 b.hei, .int .i64 b.cl, .bool b.all, .int .i64 b.be, .int .i64 b.state, .int .i64 b.unt, .int .i64 b.price] 131)).alloc (.cells #[.int .i64 b.pe, .int .i64 b.len, .int .i64 b.hei, .int .i64 b.cl, .bool b.all, .int .i64 b.be] 25) := ⟨_, rfl⟩
  have bS : W.heap[w.heap.size]? = some (.cells #[.int .i64 s.id, .string s.fr, .string s.dst, .int .i64 s.dep, .int .i64 s.arr, .slice la s.la.n lc, .slice ca s.ca.n cc, .int .i64 s.most] 37 (0, 0)) := by rw [hW]; exact blk_alloc (blk_alloc (blk_alloc (heap_alloc_new w _) _) _) _
  have bL : W.heap[w.heap.size + 1]? = some (.cells #[.slice ast x.stn cst, .slice aro x.ron cro, .slice ase x.sen cse] 136 (0, 0)) := by rw [hW]; exact blk_alloc (blk_alloc (by simpa using heap_alloc_new (w.alloc _) _) _) _
  have bB : W.heap[w.heap.size + 1 + 1]? = some (.cells #[.int .i64 b.name, .int .i64 b.who, .string b.own, .slice alg b.lgn clg, .int .i64 b.pe, .int .i64 b.len, .int .i64 b.hei, .int .i64 b.cl, .bool b.all, .int .i64 b.be, .int .i64 b.state, .int .i64 b.unt, .int .i64 b.price] 131 (0, 0)) := by rw [hW]; exact blk_alloc (by simpa using heap_alloc_new ((w.alloc _).alloc _) _) _
  have bP : W.heap[w.heap.size + 1 + 1 + 1]? = some (.cells #[.int .i64 b.pe, .int .i64 b.len, .int .i64 b.hei, .int .i64 b.cl, .bool b.all, .int .i64 b.be] 25 (0, 0)) := by rw [hW]; simpa using heap_alloc_new (((w.alloc _).alloc _).alloc _) _
  have hbW : Below w.heap.size w W := by rw [hW]; exact push (push (push (push (Below.refl _ _) _) _) _) _
  rw [← hW]
  clear hW
  have hnil : ∀ y : Load, ¬ SeatIn y b 0 := fun y ⟨j, hj, _⟩ => absurd hj (Nat.not_lt_zero _)
  go_loopw [8, 10, 22] (fun v _ i wr => ∃ (k : Nat) (c : Bool), k ≤ x.sen ∧ i = .int .i64 k ∧ v = .bool c ∧ (c = true ↔ SeatIn x b k) ∧ Below W.heap.size W wr) (fun _ _ i _ => x.sen - (intOf i).toNat)
  case atStart => exact ⟨0, false, Nat.zero_le _, rfl, rfl, ⟨fun h => (by cases h), fun h => absurd h (hnil x)⟩, Below.refl _ _⟩
  case round =>
    obtain ⟨k, c, hk, rfl, rfl, hcc, hbel⟩ := hrel
    have HC : Hid (c = true ↔ SeatIn x b k) := hcc
    clear hcc
    have bB1 : ∀ o, (wr.alloc o).cell? ⟨w.heap.size + 1 + 1, 1, none⟩ = some (.int .i64 b.who) := fun o => blk_cell (blk_alloc (blk_below bB hbel) o) 1 _ rfl
    have bP0 : ∀ o, (wr.alloc o).cell? ⟨w.heap.size + 1 + 1 + 1, 0, none⟩ = some (.int .i64 b.pe) := fun o => blk_cell (blk_alloc (blk_below bP hbel) o) 0 _ rfl
    by_cases hlt : k < x.sen
    · obtain ⟨sb, so, rfl, g1, g2⟩ := HSE.out k hlt
      have hlb := World.block_lt_of_cell? w _ g1
      have d1 := ((after hbW hbel).cell (p := ⟨sb, so + k * 2, none⟩) hlb).trans g1
      have d2 := ((after hbW hbel).cell (p := ⟨sb, so + k * 2 + 1, none⟩) hlb).trans g2
      clear g1 g2
      cases c with
      | true =>
        go_wp2
        go_roundw
        case rel => exact ⟨k + 1, true, by omega, by go_num, rfl, ⟨fun _ => seatIn_succ.2 (.inl (HC.out.1 rfl)), fun _ => rfl⟩, push hbel _⟩
        case measure => simp [intOf]; omega
      | false =>
        have HN : Hid (¬ SeatIn x b k) := fun h => by have := HC.out.2 h; cases this
        clear HC
        by_cases e1 : (x.se k).who = b.who
        · by_cases e2 : (x.se k).many = b.pe
          · have HY : Hid (SeatIn x b (k + 1)) := seatIn_succ.2 (.inr ⟨e1, e2⟩)
            go_wp2
            go_roundw
            case rel => exact ⟨k + 1, true, by omega, by go_num, rfl, ⟨fun _ => HY.out, fun _ => rfl⟩, push hbel _⟩
            case measure => simp [intOf]; omega
          · have HNN : Hid (¬ SeatIn x b (k + 1)) := fun h => by rcases seatIn_succ.1 h with h | h; exact HN.out h; exact e2 h.2
            go_wp2
            go_roundw
            case rel => exact ⟨k + 1, false, by omega, by go_num, rfl, ⟨fun h => (by cases h), fun h => absurd h HNN.out⟩, push hbel _⟩
            case measure => simp [intOf]; omega
        · have HNN : Hid (¬ SeatIn x b (k + 1)) := fun h => by rcases seatIn_succ.1 h with h | h; exact HN.out h; exact e1 h.1
          go_wp2
          go_roundw
          case rel => exact ⟨k + 1, false, by omega, by go_num, rfl, ⟨fun h => (by cases h), fun h => absurd h HNN.out⟩, push hbel _⟩
          case measure => simp [intOf]; omega
    · obtain rfl : k = x.sen := by omega
      clear bB1 bP0
      have HB1 : Hid (Below W.heap.size W wr) := hbel
      have HBW : Hid (Below w.heap.size w W) := hbW
      have bL0 := blk_cell (blk_below bL hbel) 0 _ rfl
      have bP1 := blk_cell (blk_below bP hbel) 1 _ rfl
      clear hbel hbW hk hlt hnil
      obtain ⟨z1, hz1⟩ : ∃ z, z = (b.len == 0) := ⟨_, rfl⟩
      have ez1 : (b.len == 0) = z1 := hz1.symm
      have HZ1 : Hid (z1 = true ↔ b.len = 0) := by show z1 = true ↔ b.len = 0; rw [hz1, beq_iff_eq]
      clear hz1
      go_wp2
      go_loopw [11, 13, 43] (fun v _ i wq => ∃ (k : Nat) (c : Bool), k ≤ x.stn ∧ i = .int .i64 k ∧ v = .bool c ∧ (c = true ↔ b.len = 0 ∨ StayIn x b k) ∧ Below W.heap.size W wq) (fun _ _ i _ => x.stn - (intOf i).toNat)
      case atStart => exact ⟨0, z1, Nat.zero_le _, rfl, rfl, ⟨fun h => .inl (HZ1.out.1 h), fun h => by rcases h with h | ⟨j, hj, _⟩; exact HZ1.out.2 h; exact absurd hj (Nat.not_lt_zero _)⟩, HB1.out⟩
      case round =>
        obtain ⟨k, c2, hk, rfl, rfl, hcc, hbel⟩ := hrel
        have HC2 : Hid (c2 = true ↔ b.len = 0 ∨ StayIn x b k) := hcc
        clear hcc bL0 bP1 ez1 HZ1
        by_cases hlt : k < x.stn
        · obtain ⟨sb, so, rfl, g1, g2, g3, g4⟩ := HST.out k hlt
          have hlb := World.block_lt_of_cell? w _ g1
          have hbw := after HBW.out hbel
          have d1 := (hbw.cell (p := ⟨sb, so + k * 4, none⟩) hlb).trans g1
          have d2 := (hbw.cell (p := ⟨sb, so + k * 4 + 1, none⟩) hlb).trans g2
          have d3 := (hbw.cell (p := ⟨sb, so + k * 4 + 2, none⟩) hlb).trans g3
          have d4 := (hbw.cell (p := ⟨sb, so + k * 4 + 3, none⟩) hlb).trans g4
          have bB1 : ∀ o, (wr.alloc o).cell? ⟨w.heap.size + 1 + 1, 1, none⟩ = some (.int .i64 b.who) := fun o => blk_cell (blk_alloc (blk_below bB hbel) o) 1 _ rfl
          have bP1 : ∀ o, (wr.alloc o).cell? ⟨w.heap.size + 1 + 1 + 1, 1, none⟩ = some (.int .i64 b.len) := fun o => blk_cell (blk_alloc (blk_below bP hbel) o) 1 _ rfl
          have bP2 : ∀ o, (wr.alloc o).cell? ⟨w.heap.size + 1 + 1 + 1, 2, none⟩ = some (.int .i64 b.hei) := fun o => blk_cell (blk_alloc (blk_below bP hbel) o) 2 _ rfl
          clear g1 g2 g3 g4 hbw
          cases c2 with
          | true =>
            go_wp2
            go_roundw
            case rel => exact ⟨k + 1, true, by omega, by go_num, rfl, ⟨fun _ => (HC2.out.1 rfl).imp id (fun h => stayIn_succ.2 (.inl h)), fun _ => rfl⟩, push hbel _⟩
            case measure => simp [intOf]; omega
          | false =>
            have HN : Hid (¬ (b.len = 0 ∨ StayIn x b k)) := fun h => by have := HC2.out.2 h; cases this
            clear HC2
            by_cases e1 : (x.st k).who = b.who
            · have e1' : ((x.st k).who == b.who) = true := by simpa using e1
              by_cases e2 : (x.st k).len = b.len
              · have e2' : ((x.st k).len == b.len) = true := by simpa using e2
                by_cases e3 : (x.st k).hei = b.hei
                · have e3' : ((x.st k).hei == b.hei) = true := by simpa using e3
                  have HY : Hid (b.len = 0 ∨ StayIn x b (k + 1)) := .inr (stayIn_succ.2 (.inr ⟨e1, e2, e3⟩))
                  clear e1 e2 e3
                  go_wp2
                  go_roundw
                  case rel => exact ⟨k + 1, true, by omega, by go_num, rfl, ⟨fun _ => HY.out, fun _ => rfl⟩, push hbel _⟩
                  case measure => simp [intOf]; omega
                · have e3' : ((x.st k).hei == b.hei) = false := by simpa using e3
                  have HNN : Hid (¬ (b.len = 0 ∨ StayIn x b (k + 1))) := fun h => by rcases h with h | h; exact HN.out (.inl h); rcases stayIn_succ.1 h with h | h; exact HN.out (.inr h); exact e3 h.2.2
                  clear e1 e2 e3
                  go_wp2
                  go_roundw
                  case rel => exact ⟨k + 1, false, by omega, by go_num, rfl, ⟨fun h => (by cases h), fun h => absurd h HNN.out⟩, push hbel _⟩
                  case measure => simp [intOf]; omega
              · have e2' : ((x.st k).len == b.len) = false := by simpa using e2
                have HNN : Hid (¬ (b.len = 0 ∨ StayIn x b (k + 1))) := fun h => by rcases h with h | h; exact HN.out (.inl h); rcases stayIn_succ.1 h with h | h; exact HN.out (.inr h); exact e2 h.2.1
                clear e1 e2
                go_wp2
                go_roundw
                case rel => exact ⟨k + 1, false, by omega, by go_num, rfl, ⟨fun h => (by cases h), fun h => absurd h HNN.out⟩, push hbel _⟩
                case measure => simp [intOf]; omega
            · have e1' : ((x.st k).who == b.who) = false := by simpa using e1
              have HNN : Hid (¬ (b.len = 0 ∨ StayIn x b (k + 1))) := fun h => by rcases h with h | h; exact HN.out (.inl h); rcases stayIn_succ.1 h with h | h; exact HN.out (.inr h); exact e1 h.1
              clear e1
              go_wp2
              go_roundw
              case rel => exact ⟨k + 1, false, by omega, by go_num, rfl, ⟨fun h => (by cases h), fun h => absurd h HNN.out⟩, push hbel _⟩
              case measure => simp [intOf]; omega
        · obtain rfl : k = x.stn := by omega
          have HB2 : Hid (Below W.heap.size W wr) := hbel
          have bL1 := blk_cell (blk_below bL hbel) 1 _ rfl
          have bP3 := blk_cell (blk_below bP hbel) 3 _ rfl
          clear hbel hk hlt
          obtain ⟨z1, hz1⟩ : ∃ z, z = (b.cl == 0) := ⟨_, rfl⟩
          have ez1 : (b.cl == 0) = z1 := hz1.symm
          have HZ1 : Hid (z1 = true ↔ b.cl = 0) := by show z1 = true ↔ b.cl = 0; rw [hz1, beq_iff_eq]
          clear hz1
          go_wp2
          go_loopw [14, 16, 76] (fun v _ i wq => ∃ (k : Nat) (c : Bool), k ≤ x.ron ∧ i = .int .i64 k ∧ v = .bool c ∧ (c = true ↔ b.cl = 0 ∨ RoomIn s x b k) ∧ Below W.heap.size W wq) (fun _ _ i _ => x.ron - (intOf i).toNat)
          case atStart => exact ⟨0, z1, Nat.zero_le _, rfl, rfl, ⟨fun h => .inl (HZ1.out.1 h), fun h => by rcases h with h | ⟨j, hj, _⟩; exact HZ1.out.2 h; exact absurd hj (Nat.not_lt_zero _)⟩, HB2.out⟩
          case round =>
            obtain ⟨k, c3, hk, rfl, rfl, hcc, hbel⟩ := hrel
            have HC3 : Hid (c3 = true ↔ b.cl = 0 ∨ RoomIn s x b k) := hcc
            clear hcc bL1 bP3 ez1 HZ1
            by_cases hlt : k < x.ron
            · obtain ⟨sb, so, rfl, g1, g2, g3, g4⟩ := HRO.out k hlt
              have hlb := World.block_lt_of_cell? w _ g1
              have hbw := after HBW.out hbel
              have d1 := (hbw.cell (p := ⟨sb, so + k * 4, none⟩) hlb).trans g1
              have d2 := (hbw.cell (p := ⟨sb, so + k * 4 + 1, none⟩) hlb).trans g2
              have d3 := (hbw.cell (p := ⟨sb, so + k * 4 + 2, none⟩) hlb).trans g3
              have d4 := (hbw.cell (p := ⟨sb, so + k * 4 + 3, none⟩) hlb).trans g4
              obtain ⟨i0, i1⟩ := HCB.out k hlt
              obtain ⟨cb, co, rfl, k1, k2⟩ := HCA.out (x.ro k).cab.toNat (by omega)
              have hlc := World.block_lt_of_cell? w _ k1
              have c1 : ∀ o, (wr.alloc o).cell? ⟨cb, co + (x.ro k).cab.toNat * 2, none⟩ = some (.int .i64 (s.ca.A (x.ro k).cab.toNat)) := fun o => (((hbw.alloc hbw.size o).cell (p := ⟨cb, co + (x.ro k).cab.toNat * 2, none⟩) hlc)).trans k1
              have bB1 : ∀ o, (wr.alloc o).cell? ⟨w.heap.size + 1 + 1, 1, none⟩ = some (.int .i64 b.who) := fun o => blk_cell (blk_alloc (blk_below bB hbel) o) 1 _ rfl
              have bP3 : ∀ o, (wr.alloc o).cell? ⟨w.heap.size + 1 + 1 + 1, 3, none⟩ = some (.int .i64 b.cl) := fun o => blk_cell (blk_alloc (blk_below bP hbel) o) 3 _ rfl
              obtain ⟨q, hq⟩ : ∃ q, q = b.all := ⟨_, rfl⟩
              have HQ : Hid (q = b.all) := hq
              have bP4 : ∀ o, (wr.alloc o).cell? ⟨w.heap.size + 1 + 1 + 1, 4, none⟩ = some (.bool q) := fun o => by rw [hq]; exact blk_cell (blk_alloc (blk_below bP hbel) o) 4 _ rfl
              clear hq
              have bP5 : ∀ o, (wr.alloc o).cell? ⟨w.heap.size + 1 + 1 + 1, 5, none⟩ = some (.int .i64 b.be) := fun o => blk_cell (blk_alloc (blk_below bP hbel) o) 5 _ rfl
              have bS6 : ∀ o, (wr.alloc o).cell? ⟨w.heap.size, 6, none⟩ = some (.slice (some ⟨cb, co, none⟩) s.ca.n cc) := fun o => blk_cell (blk_alloc (blk_below bS hbel) o) 6 _ rfl
              clear g1 g2 g3 g4 k1 k2 hbw
              cases c3 with
              | true =>
                go_wp2
                go_quiet (fail)
                go_wp2
                go_roundw
                case rel => exact ⟨k + 1, true, by omega, by go_num, rfl, ⟨fun _ => (HC3.out.1 (by simp)).imp id (fun h => roomIn_succ.2 (.inl h)), fun _ => rfl⟩, below_drewN (push hbel _) _⟩
                case measure => simp [intOf]; omega
              | false =>
                have HN : Hid (¬ (b.cl = 0 ∨ RoomIn s x b k)) := fun h => by have := HC3.out.2 h; cases this
                clear HC3
                by_cases e1 : (x.ro k).who = b.who
                · have e1' : ((x.ro k).who == b.who) = true := by simpa using e1
                  by_cases e2 : (x.ro k).all = q
                  · have e2' : ((x.ro k).all == q) = true := by simpa using e2
                    by_cases e3 : s.ca.A (x.ro k).cab.toNat = b.cl
                    · have e3' : (s.ca.A (x.ro k).cab.toNat == b.cl) = true := by simpa using e3
                      by_cases e4 : q = true
                      · have e2a : (x.ro k).all = true := e2.trans e4
                        have HY : Hid (b.cl = 0 ∨ RoomIn s x b (k + 1)) := .inr (roomIn_succ.2 (.inr ⟨e1, e2.trans HQ.out, e3, .inl (HQ.out.symm.trans e4)⟩))
                        clear e1 e2 e3 e2'
                        go_wp2
                        go_quiet (fail)
                        go_wp2
                        go_roundw
                        case rel => exact ⟨k + 1, true, by omega, by go_num, rfl, ⟨fun _ => HY.out, fun _ => rfl⟩, below_drewN (push hbel _) _⟩
                        case measure => simp [intOf]; omega
                      · have e4' : q = false := by cases h : q; rfl; exact absurd h e4
                        have e2a : (x.ro k).all = false := e2.trans e4'
                        by_cases e5 : (x.ro k).many = b.be
                        · have e5' : ((x.ro k).many == b.be) = true := by simpa using e5
                          have HY : Hid (b.cl = 0 ∨ RoomIn s x b (k + 1)) := .inr (roomIn_succ.2 (.inr ⟨e1, e2.trans HQ.out, e3, .inr e5⟩))
                          clear e1 e2 e3 e4 e5 e2'
                          go_wp2
                          go_quiet (fail)
                          go_wp2
                          go_roundw
                          case rel => exact ⟨k + 1, true, by omega, by go_num, rfl, ⟨fun _ => HY.out, fun _ => rfl⟩, below_drewN (push hbel _) _⟩
                          case measure => simp [intOf]; omega
                        · have e5' : ((x.ro k).many == b.be) = false := by simpa using e5
                          have HNN : Hid (¬ (b.cl = 0 ∨ RoomIn s x b (k + 1))) := fun h => by rcases h with h | h; exact HN.out (.inl h); rcases roomIn_succ.1 h with h | h; exact HN.out (.inr h); exact (by rcases h.2.2.2 with h | h; exact e4 (HQ.out.trans h); exact e5 h)
                          clear e1 e2 e3 e4 e5 e2'
                          go_wp2
                          go_quiet (fail)
                          go_wp2
                          go_roundw
                          case rel => exact ⟨k + 1, false, by omega, by go_num, rfl, ⟨fun h => (by cases h), fun h => absurd h HNN.out⟩, below_drewN (push hbel _) _⟩
                          case measure => simp [intOf]; omega
                    · have e3' : (s.ca.A (x.ro k).cab.toNat == b.cl) = false := by simpa using e3
                      have HNN : Hid (¬ (b.cl = 0 ∨ RoomIn s x b (k + 1))) := fun h => by rcases h with h | h; exact HN.out (.inl h); rcases roomIn_succ.1 h with h | h; exact HN.out (.inr h); exact e3 h.2.2.1
                      clear e1 e2 e3
                      go_wp2
                      go_quiet (fail)
                      go_wp2
                      go_roundw
                      case rel => exact ⟨k + 1, false, by omega, by go_num, rfl, ⟨fun h => (by cases h), fun h => absurd h HNN.out⟩, below_drewN (push hbel _) _⟩
                      case measure => simp [intOf]; omega
                  · have e2' : ((x.ro k).all == q) = false := by simpa using e2
                    have HNN : Hid (¬ (b.cl = 0 ∨ RoomIn s x b (k + 1))) := fun h => by rcases h with h | h; exact HN.out (.inl h); rcases roomIn_succ.1 h with h | h; exact HN.out (.inr h); exact e2 (h.2.1.trans HQ.out.symm)
                    clear e1 e2
                    go_wp2
                    go_quiet (fail)
                    go_wp2
                    go_roundw
                    case rel => exact ⟨k + 1, false, by omega, by go_num, rfl, ⟨fun h => (by cases h), fun h => absurd h HNN.out⟩, below_drewN (push hbel _) _⟩
                    case measure => simp [intOf]; omega
                · have e1' : ((x.ro k).who == b.who) = false := by simpa using e1
                  have HNN : Hid (¬ (b.cl = 0 ∨ RoomIn s x b (k + 1))) := fun h => by rcases h with h | h; exact HN.out (.inl h); rcases roomIn_succ.1 h with h | h; exact HN.out (.inr h); exact e1 h.1
                  clear e1
                  go_wp2
                  go_quiet (fail)
                  go_wp2
                  go_roundw
                  case rel => exact ⟨k + 1, false, by omega, by go_num, rfl, ⟨fun h => (by cases h), fun h => absurd h HNN.out⟩, below_drewN (push hbel _) _⟩
                  case measure => simp [intOf]; omega
            · obtain rfl : k = x.ron := by omega
              have HF : Hid (Below w.heap.size w wr) := after HBW.out hbel
              have HS : Hid (StandsB s x b ↔ c = true ∧ c2 = true ∧ c3 = true) := by
                show StandsB s x b ↔ c = true ∧ c2 = true ∧ c3 = true
                unfold StandsB
                rw [HC.out, HC2.out, HC3.out]
              clear hbel hk hlt HC HC2 HC3
              cases c with
              | false =>
                go_wp2
                go_ret
                exact ⟨says_no (fun h => by have h := HS.out.1 h; simp at h), HF.out⟩
              | true =>
                cases c2 with
                | false =>
                  go_wp2
                  go_ret
                  exact ⟨says_no (fun h => by have h := HS.out.1 h; simp at h), HF.out⟩
                | true =>
                  cases c3 with
                  | false =>
                    go_wp2
                    go_ret
                    exact ⟨says_no (fun h => by have h := HS.out.1 h; simp at h), HF.out⟩
                  | true =>
                    go_wp2
                    go_ret
                    exact ⟨says_yes (HS.out.2 (by simp)), HF.out⟩

end Go.Proofs.YtfallpinmhbemaaGreatDoor

namespace Go.Proofs.YtfallpinmhbemaaGreatDoor
open Go.RowKit

/-- The booking's state bars the operation. -/
def BarredB (b : Book) (y : OpD) : Prop := ¬ Live b ∨ (y.kind = 4 ∧ b.state ≠ 1) ∨ (y.kind = 8 ∧ (b.state ≠ 1 ∨ y.now ≤ b.unt))

/-- The code of the booking that an operation names. -/
def NameAns (R m : Nat) (x : Off) (y : OpD) (code : Int) : Prop := (R ≤ m → code = 3) ∧ (m < R → BarredB (x.bk m) y → code = 4) ∧ (m < R → ¬ BarredB (x.bk m) y → code = 0)

set_option maxHeartbeats 6400000 in
set_option maxRecDepth 100000 in
theorem l7NameFault_any (asa ald abk alg : Option Addr) (N M R csa cld cbk clg m : Nat) (x : Off) (y : OpD) (w : World) (hR : R ≤ 1048576) (hm30 : m ≤ 1048576) (hnm : y.name = (m : Int) + 1) (hbk : BooksAt w abk R x.bk) :
    Calls Tryz.prog 137 #[.agg #[.slice asa N csa, .slice ald M cld, .slice abk R cbk], .agg #[.int .i64 y.kind, .string y.own, .int .i64 y.name, .slice alg y.lgn clg, .int .i64 y.pe, .int .i64 y.len, .int .i64 y.hei, .int .i64 y.cl, .bool y.all, .int .i64 y.be, .int .i64 y.unt, .int .i64 y.now]] w fun e w' => (∃ code : Int, e = .returned (.int .i64 code) ∧ NameAns R m x y code) ∧ Below w.heap.size w w' := by
  have HBK : Hid (BooksAt w abk R x.bk) := hbk
  clear hbk
  rw [hnm]
  have hb0 : Below w.heap.size w ((w.alloc (.cells #[.slice asa N csa, .slice ald M cld, .slice abk R cbk] 66)).alloc (.cells #[.int .i64 y.kind, .string y.own, .int .i64 ((m : Int) + 1), .slice alg y.lgn clg, .int .i64 y.pe, .int .i64 y.len, .int .i64 y.hei, .int .i64 y.cl, .bool y.all, .int .i64 y.be, .int .i64 y.unt, .int .i64 y.now] 27)) := push (push (Below.refl _ _) _) _
  have bF : ((w.alloc (.cells #[.slice asa N csa, .slice ald M cld, .slice abk R cbk] 66)).alloc (.cells #[.int .i64 y.kind, .string y.own, .int .i64 ((m : Int) + 1), .slice alg y.lgn clg, .int .i64 y.pe, .int .i64 y.len, .int .i64 y.hei, .int .i64 y.cl, .bool y.all, .int .i64 y.be, .int .i64 y.unt, .int .i64 y.now] 27)).heap[w.heap.size]? = some (.cells #[.slice asa N csa, .slice ald M cld, .slice abk R cbk] 66 (0, 0)) := blk_alloc (heap_alloc_new w _) _
  have bO : ((w.alloc (.cells #[.slice asa N csa, .slice ald M cld, .slice abk R cbk] 66)).alloc (.cells #[.int .i64 y.kind, .string y.own, .int .i64 ((m : Int) + 1), .slice alg y.lgn clg, .int .i64 y.pe, .int .i64 y.len, .int .i64 y.hei, .int .i64 y.cl, .bool y.all, .int .i64 y.be, .int .i64 y.unt, .int .i64 y.now] 27)).heap[w.heap.size + 1]? = some (.cells #[.int .i64 y.kind, .string y.own, .int .i64 ((m : Int) + 1), .slice alg y.lgn clg, .int .i64 y.pe, .int .i64 y.len, .int .i64 y.hei, .int .i64 y.cl, .bool y.all, .int .i64 y.be, .int .i64 y.unt, .int .i64 y.now] 27 (0, 0)) := by simpa using heap_alloc_new (w.alloc (.cells #[.slice asa N csa, .slice ald M cld, .slice abk R cbk] 66)) _
  by_cases hlt : m < R
  case neg =>
    have HC : NameAns R m x y 3 := ⟨fun _ => rfl, fun h => absurd h hlt, fun h => absurd h hlt⟩
    have d0 : decide ((R : Int) < (m : Int) + 1) = true := decide_eq_true (by omega)
    have d1 : (R : Int) < (m : Int) + 1 := by omega
    go_enter Tryz.func137, Tryz.ntmps137
    go_upto_region 1 with fail
    generalize (w.alloc (.cells #[.slice asa N csa, .slice ald M cld, .slice abk R cbk] 66)).alloc (.cells #[.int .i64 y.kind, .string y.own, .int .i64 ((m : Int) + 1), .slice alg y.lgn clg, .int .i64 y.pe, .int .i64 y.len, .int .i64 y.hei, .int .i64 y.cl, .bool y.all, .int .i64 y.be, .int .i64 y.unt, .int .i64 y.now] 27) = V at hb0 bF bO ⊢
    have f2 := blk_cell bF 2 _ rfl
    have o2 := blk_cell bO 2 _ rfl
    go_wp2
    go_ret
    exact ⟨⟨3, rfl, HC⟩, hb0⟩
  obtain ⟨Cc, hrc, his⟩ := HBK.out
  obtain ⟨gb, off, habk, hc⟩ := hrc m hlt
  have HABK : Hid (abk = some ⟨gb, off, none⟩) := habk
  clear habk
  obtain ⟨blg, blc, hCt, g1, s1⟩ := his m hlt
  obtain ⟨b, hbd⟩ : ∃ b, b = x.bk m := ⟨_, rfl⟩
  rw [← hbd] at hCt
  have HBD : Hid (x.bk m = b) := hbd.symm
  rw [hCt] at hc
  have hgb := World.block_lt_of_cell? w _ (hc 0 (by decide))
  have d0 : decide ((R : Int) < (m : Int) + 1) = false := decide_eq_false (by omega)
  have i0 : (0 : Int) ≤ (m : Int) := by omega
  have i1 : (m : Int) < (R : Int) := by omega
  have hwm : IntKind.i64.wrap ((m : Int) + 1 - 1) = (m : Int) := by rw [IntKind.wrap_i64]; omega
  have HFIN : Hid (∀ q : Bool, (q = true ↔ BarredB b y) → NameAns R m x y (if q = true then (4 : Int) else 0)) := fun q hq => by
    unfold NameAns
    rw [HBD.out]
    exact ⟨fun h => absurd hlt (by omega), fun _ h => if_pos (hq.2 h), fun _ h => if_neg (fun e => h (hq.1 e))⟩
  go_enter Tryz.func137, Tryz.ntmps137
  go_upto_region 1 with fail
  generalize (w.alloc (.cells #[.slice asa N csa, .slice ald M cld, .slice abk R cbk] 66)).alloc (.cells #[.int .i64 y.kind, .string y.own, .int .i64 ((m : Int) + 1), .slice alg y.lgn clg, .int .i64 y.pe, .int .i64 y.len, .int .i64 y.hei, .int .i64 y.cl, .bool y.all, .int .i64 y.be, .int .i64 y.unt, .int .i64 y.now] 27) = V at hb0 bF bO ⊢
  have f2 := blk_cell bF 2 _ rfl
  rw [HABK.out] at f2
  have o2 := blk_cell bO 2 _ rfl
  have c0 : V.cell? ⟨gb, off + m * 13, none⟩ = some (.int .i64 b.name) := (hb0.cell (p := ⟨gb, off + m * 13, none⟩) hgb).trans (hc 0 (by decide))
  have c1 : V.cell? ⟨gb, off + m * 13 + 1, none⟩ = some (.int .i64 b.who) := (hb0.cell (p := ⟨gb, off + m * 13 + 1, none⟩) hgb).trans (hc 1 (by decide))
  have c2 : V.cell? ⟨gb, off + m * 13 + 2, none⟩ = some (.string b.own) := (hb0.cell (p := ⟨gb, off + m * 13 + 2, none⟩) hgb).trans (hc 2 (by decide))
  have c3 : V.cell? ⟨gb, off + m * 13 + 3, none⟩ = some (.slice blg b.lgn blc) := (hb0.cell (p := ⟨gb, off + m * 13 + 3, none⟩) hgb).trans (hc 3 (by decide))
  have c4 : V.cell? ⟨gb, off + m * 13 + 4, none⟩ = some (.int .i64 b.pe) := (hb0.cell (p := ⟨gb, off + m * 13 + 4, none⟩) hgb).trans (hc 4 (by decide))
  have c5 : V.cell? ⟨gb, off + m * 13 + 5, none⟩ = some (.int .i64 b.len) := (hb0.cell (p := ⟨gb, off + m * 13 + 5, none⟩) hgb).trans (hc 5 (by decide))
  have c6 : V.cell? ⟨gb, off + m * 13 + 6, none⟩ = some (.int .i64 b.hei) := (hb0.cell (p := ⟨gb, off + m * 13 + 6, none⟩) hgb).trans (hc 6 (by decide))
  have c7 : V.cell? ⟨gb, off + m * 13 + 7, none⟩ = some (.int .i64 b.cl) := (hb0.cell (p := ⟨gb, off + m * 13 + 7, none⟩) hgb).trans (hc 7 (by decide))
  have c8 : V.cell? ⟨gb, off + m * 13 + 8, none⟩ = some (.bool b.all) := (hb0.cell (p := ⟨gb, off + m * 13 + 8, none⟩) hgb).trans (hc 8 (by decide))
  have c9 : V.cell? ⟨gb, off + m * 13 + 9, none⟩ = some (.int .i64 b.be) := (hb0.cell (p := ⟨gb, off + m * 13 + 9, none⟩) hgb).trans (hc 9 (by decide))
  have c10 : V.cell? ⟨gb, off + m * 13 + 10, none⟩ = some (.int .i64 b.state) := (hb0.cell (p := ⟨gb, off + m * 13 + 10, none⟩) hgb).trans (hc 10 (by decide))
  have c11 : V.cell? ⟨gb, off + m * 13 + 11, none⟩ = some (.int .i64 b.unt) := (hb0.cell (p := ⟨gb, off + m * 13 + 11, none⟩) hgb).trans (hc 11 (by decide))
  have c12 : V.cell? ⟨gb, off + m * 13 + 12, none⟩ = some (.int .i64 b.price) := (hb0.cell (p := ⟨gb, off + m * 13 + 12, none⟩) hgb).trans (hc 12 (by decide))
  have bX := heap_alloc_new V (.cells #[.int .i64 b.name, .int .i64 b.who, .string b.own, .slice blg b.lgn blc, .int .i64 b.pe, .int .i64 b.len, .int .i64 b.hei, .int .i64 b.cl, .bool b.all, .int .i64 b.be, .int .i64 b.state, .int .i64 b.unt, .int .i64 b.price] 131)
  have pX : Below V.heap.size V (V.alloc (.cells #[.int .i64 b.name, .int .i64 b.who, .string b.own, .slice blg b.lgn blc, .int .i64 b.pe, .int .i64 b.len, .int .i64 b.hei, .int .i64 b.cl, .bool b.all, .int .i64 b.be, .int .i64 b.state, .int .i64 b.unt, .int .i64 b.price] 131)) := push (Below.refl _ _) _
  have bO2 := blk_alloc bO (.cells #[.int .i64 b.name, .int .i64 b.who, .string b.own, .slice blg b.lgn blc, .int .i64 b.pe, .int .i64 b.len, .int .i64 b.hei, .int .i64 b.cl, .bool b.all, .int .i64 b.be, .int .i64 b.state, .int .i64 b.unt, .int .i64 b.price] 131)
  clear hc hCt g1 s1 hrc his hbd
  go_upto_region 4 with fail
  have hB2 := after hb0 pX
  generalize V.heap.size = xb at bX ⊢
  generalize V.alloc (.cells #[.int .i64 b.name, .int .i64 b.who, .string b.own, .slice blg b.lgn blc, .int .i64 b.pe, .int .i64 b.len, .int .i64 b.hei, .int .i64 b.cl, .bool b.all, .int .i64 b.be, .int .i64 b.state, .int .i64 b.unt, .int .i64 b.price] 131) = W at bX pX bO2 hB2 ⊢
  clear c0 c1 c2 c3 c4 c5 c6 c7 c8 c9 c10 c11 c12 f2 o2 bF bO hb0 pX i0 i1 hwm d0
  have y0 := blk_cell bX 0 _ rfl
  have y1 := blk_cell bX 1 _ rfl
  have y2 := blk_cell bX 2 _ rfl
  have y3 := blk_cell bX 3 _ rfl
  have y4 := blk_cell bX 4 _ rfl
  have y5 := blk_cell bX 5 _ rfl
  have y6 := blk_cell bX 6 _ rfl
  have y7 := blk_cell bX 7 _ rfl
  have y8 := blk_cell bX 8 _ rfl
  have y9 := blk_cell bX 9 _ rfl
  have y10 := blk_cell bX 10 _ rfl
  have y11 := blk_cell bX 11 _ rfl
  have y12 := blk_cell bX 12 _ rfl
  obtain ⟨hs, hhs⟩ : ∃ hs : Bool, hs = (b.state == 1) := ⟨_, rfl⟩
  have hst : (b.state == 1) = hs := hhs.symm
  have HST : Hid (hs = true ↔ b.state = 1) := by rw [hhs]; exact beq_iff_eq
  clear hhs
  obtain ⟨lv, hlv⟩ : ∃ lv : Bool, lv = decide (Live b) := ⟨_, rfl⟩
  have HLV : Hid (lv = true ↔ Live b) := by rw [hlv]; exact decide_eq_true_iff
  have cl := l7Live_any b blg blc W
  rw [← hlv] at cl
  clear hlv
  go_wp2_with fail
  refine cl.mono ?_
  clear cl
  rintro e w4 ⟨rfl, hb4⟩
  have bX4 := blk_below bX hb4
  have bO4 := blk_below bO2 hb4
  have HB4 : Hid (Below w.heap.size w w4) := after hB2 hb4
  clear y0 y1 y2 y3 y4 y5 y6 y7 y8 y9 y10 y11 y12 bX bO2 hB2 hb4 hst
  have x11 := blk_cell bX4 11 _ rfl
  have o0 := blk_cell bO4 0 _ rfl
  have o11 := blk_cell bO4 11 _ rfl
  obtain ⟨k4, hk4⟩ : ∃ k : Bool, (y.kind == 4) = k := ⟨_, rfl⟩
  obtain ⟨k8, hk8⟩ : ∃ k : Bool, (y.kind == 8) = k := ⟨_, rfl⟩
  obtain ⟨un, hun⟩ : ∃ k : Bool, decide (y.now ≤ b.unt) = k := ⟨_, rfl⟩
  have HQ : Hid ((!lv || (k4 && !hs) || (k8 && (!hs || un))) = true ↔ BarredB b y) := by
    show (!lv || (k4 && !hs) || (k8 && (!hs || un))) = true ↔ BarredB b y
    have e4 : k4 = true ↔ y.kind = 4 := by rw [← hk4]; exact beq_iff_eq
    have e8 : k8 = true ↔ y.kind = 8 := by rw [← hk8]; exact beq_iff_eq
    have eu : un = true ↔ y.now ≤ b.unt := by rw [← hun]; exact decide_eq_true_iff
    have el := HLV.out
    have es := HST.out
    unfold BarredB
    rw [← el, ← e4, ← e8, ← eu, Ne, ← es]
    cases lv <;> cases k4 <;> cases k8 <;> cases hs <;> cases un <;> simp
  clear bX4 bO4 HLV HST
  have HX : Hid (NameAns R m x y (if (!lv || (k4 && !hs) || (k8 && (!hs || un))) = true then (4 : Int) else 0)) := HFIN.out _ HQ.out
  clear HQ HFIN
  cases lv <;> cases k4 <;> cases k8 <;> cases hs <;> cases un
  all_goals
    go_wp2
    go_ret
    exact ⟨⟨_, rfl, HX.out⟩, HB4.out⟩

end Go.Proofs.YtfallpinmhbemaaGreatDoor

namespace Go.Proofs.YtfallpinmhbemaaGreatDoor
open Go.RowKit

set_option maxHeartbeats 3200000 in
set_option maxRecDepth 100000 in
theorem specOp_1 (own : ByteArray) (name : Int) (alg : Option Addr) (lgn clg : Nat) (lg : Nat → Int) (pe len hei cl : Int) (all : Bool) (be unt now : Int) (w : World) (_ : own.size ≤ 1000000000000000) :
    Calls Tryz.prog 18 #[.agg #[.int .i64 1, .string own, .int .i64 name, .slice alg lgn clg, .int .i64 pe, .int .i64 len, .int .i64 hei, .int .i64 cl, .bool all, .int .i64 be, .int .i64 unt, .int .i64 now]] w fun e w' => e = .returned (.bool (decide (OpOk ⟨1, own, name, lgn, lg, pe, len, hei, cl, all, be, unt, now⟩))) ∧ Below w.heap.size w w' := by
  obtain ⟨R, hR⟩ : ∃ R, R = decide (OpOk ⟨1, own, name, lgn, lg, pe, len, hei, cl, all, be, unt, now⟩) := ⟨_, rfl⟩
  rw [← hR]
  obtain ⟨bo, hbo⟩ : ∃ b, b = decide (OwnerOk 1 own) := ⟨_, rfl⟩
  obtain ⟨bn, hbn⟩ : ∃ b, b = decide (NameOk 1 name) := ⟨_, rfl⟩
  obtain ⟨bl, hbl⟩ : ∃ b, b = decide (LegsOkFor 1 lgn) := ⟨_, rfl⟩
  obtain ⟨bp, hbp⟩ : ∃ b, b = decide (PartyOkFor 1 ⟨pe, len, hei, cl, all, be⟩) := ⟨_, rfl⟩
  obtain ⟨bu, hbu⟩ : ∃ b, b = decide (UntilOk 1 unt) := ⟨_, rfl⟩
  obtain ⟨bw, hbw⟩ : ∃ b, b = decide (NowOk 1 now) := ⟨_, rfl⟩
  have HR : Hid (R = (bo && bn && bl && bp && bu && bw)) := by
    show R = (bo && bn && bl && bp && bu && bw)
    rw [hR, hbo, hbn, hbl, hbp, hbu, hbw]
    exact opOk_split (k := 1) (by unfold In; omega)
  clear hR
  have eo : own.toList.isEmpty = bo := by rw [hbo, owner_empty own (k := 1) (by omega)]
  have en : (name == 0) = bn := by rw [hbn, name_zero name (k := 1) (by unfold In; omega)]
  have el : decide (In (lgn : Int) 1 3) = bl := by rw [hbl]; exact decide_eq_decide.2 (by unfold LegsOkFor HasLegs In; simp; omega)
  have HO : Hid (bp = decide (PartyOkFor 1 ⟨pe, len, hei, cl, all, be⟩)) := hbp
  have HU : Hid (bu = decide (UntilOk 1 unt)) := hbu
  have HW : Hid (bw = decide (NowOk 1 now)) := hbw
  clear hbo hbn hbl hbp hbu hbw
  have d9 : decide (In 1 1 9) = true := by decide
  have dn : decide (In 1 4 8) = false := by decide
  have dl : decide (HasLegs 1) = true := by decide
  have hb0 : Below w.heap.size w (w.alloc (.cells #[.int .i64 1, .string own, .int .i64 name, .slice alg lgn clg, .int .i64 pe, .int .i64 len, .int .i64 hei, .int .i64 cl, .bool all, .int .i64 be, .int .i64 unt, .int .i64 now] 27)) := push (Below.refl _ _) _
  have b0 := heap_alloc_new w (.cells #[.int .i64 1, .string own, .int .i64 name, .slice alg lgn clg, .int .i64 pe, .int .i64 len, .int .i64 hei, .int .i64 cl, .bool all, .int .i64 be, .int .i64 unt, .int .i64 now] 27)
  go_enter Tryz.func18, Tryz.ntmps18
  go_upto_region 11 with (first | (go_at_call 19; refine (l1In_is _ _ _ _).mono ?_; rintro e w' ⟨rfl, hw'⟩; have hw' := hw'.symm; subst hw') | (go_at_call 43; refine (l7Named_is _ _).mono ?_; rintro e w' ⟨rfl, hw'⟩; have hw' := hw'.symm; subst hw') | (go_at_call 44; refine (l7Legs_is _ _).mono ?_; rintro e w' ⟨rfl, hw'⟩; have hw' := hw'.symm; subst hw'))
  generalize w.alloc (.cells #[.int .i64 1, .string own, .int .i64 name, .slice alg lgn clg, .int .i64 pe, .int .i64 len, .int .i64 hei, .int .i64 cl, .bool all, .int .i64 be, .int .i64 unt, .int .i64 now] 27) = W at hb0 b0 ⊢
  have y0 := blk_cell b0 0 _ rfl
  have y1 := blk_cell b0 1 _ rfl
  have y2 := blk_cell b0 2 _ rfl
  have y3 := blk_cell b0 3 _ rfl
  have y4 := blk_cell b0 4 _ rfl
  have y5 := blk_cell b0 5 _ rfl
  have y6 := blk_cell b0 6 _ rfl
  have y7 := blk_cell b0 7 _ rfl
  have y8 := blk_cell b0 8 _ rfl
  have y9 := blk_cell b0 9 _ rfl
  have y10 := blk_cell b0 10 _ rfl
  have y11 := blk_cell b0 11 _ rfl
  go_cut [7] (fun c wx => c = .bool (PZ pe len hei cl all be) ∧ wx = W)
  case first =>
    by_cases gpe : pe = 0
    · subst gpe
      by_cases glen : len = 0
      · subst glen
        by_cases ghei : hei = 0
        · subst ghei
          by_cases gcl : cl = 0
          · subst gcl
            cases all with
            | true =>
              have hz : PZ 0 0 0 0 true be = false := pz_no (fun h => by cases h.2.2.2.2.1)
              go_wp2
              go_meet
              exact ⟨by rw [hz], rfl⟩
            | false =>
              by_cases gbe : be = 0
              · subst gbe
                go_wp2
                go_meet
                exact ⟨rfl, rfl⟩
              · have ebe : (be == 0) = false := by simpa using gbe
                have hz : PZ 0 0 0 0 false be = false := pz_no (fun h => gbe h.2.2.2.2.2)
                go_wp2
                go_meet
                exact ⟨by rw [hz], rfl⟩
          · have ecl : (cl == 0) = false := by simpa using gcl
            have hz : PZ 0 0 0 cl all be = false := pz_no (fun h => gcl h.2.2.2.1)
            go_wp2
            go_meet
            exact ⟨by rw [hz], rfl⟩
        · have ehei : (hei == 0) = false := by simpa using ghei
          have hz : PZ 0 0 hei cl all be = false := pz_no (fun h => ghei h.2.2.1)
          go_wp2
          go_meet
          exact ⟨by rw [hz], rfl⟩
      · have elen : (len == 0) = false := by simpa using glen
        have hz : PZ 0 len hei cl all be = false := pz_no (fun h => glen h.2.1)
        go_wp2
        go_meet
        exact ⟨by rw [hz], rfl⟩
    · have epe : (pe == 0) = false := by simpa using gpe
      have hz : PZ pe len hei cl all be = false := pz_no (fun h => gpe h.1)
      go_wp2
      go_meet
      exact ⟨by rw [hz], rfl⟩
  case rest =>
    obtain ⟨rfl, hwc⟩ := hcut
    have hwc := hwc.symm
    subst hwc
    generalize PZ pe len hei cl all be = pz at *
    go_wp2_with (first | (go_at_call 19; refine (l1In_is _ _ _ _).mono ?_; rintro e w' ⟨rfl, hw'⟩; have hw' := hw'.symm; subst hw') | (go_at_call 43; refine (l7Named_is _ _).mono ?_; rintro e w' ⟨rfl, hw'⟩; have hw' := hw'.symm; subst hw') | (go_at_call 44; refine (l7Legs_is _ _).mono ?_; rintro e w' ⟨rfl, hw'⟩; have hw' := hw'.symm; subst hw'))
    refine (specParty_any pe len hei cl all be _).mono ?_
    rintro e W' ⟨⟨q, rfl, hq⟩, hb1⟩
    obtain rfl : bp = q := by rw [HO.out]; exact party_says (k := 1) (.inl rfl) hq
    have b1 := blk_below b0 hb1
    have hb2 := after hb0 hb1
    clear hb0 b0 hb1 hq y0 y1 y2 y3 y4 y5 y6 y7 y8 y9 y10 y11
    have y0 := blk_cell b1 0 _ rfl
    have y3 := blk_cell b1 3 _ rfl
    have y10 := blk_cell b1 10 _ rfl
    have y11 := blk_cell b1 11 _ rfl
    go_upto_region 17 with (first | (go_at_call 19; refine (l1In_is _ _ _ _).mono ?_; rintro e w' ⟨rfl, hw'⟩; have hw' := hw'.symm; subst hw') | (go_at_call 43; refine (l7Named_is _ _).mono ?_; rintro e w' ⟨rfl, hw'⟩; have hw' := hw'.symm; subst hw') | (go_at_call 44; refine (l7Legs_is _ _).mono ?_; rintro e w' ⟨rfl, hw'⟩; have hw' := hw'.symm; subst hw'))
    go_cut [8] (fun c wx => c = .bool bu ∧ wx = W')
    case first =>
      by_cases u0 : unt = 0
      · subst u0
        go_wp2
        go_meet
        exact ⟨by rw [HU.out, decide_eq_true (.inl rfl)], rfl⟩
      · have e0 : (unt == 0) = false := by simpa using u0
        have eu : bu = false := by rw [HU.out]; exact decide_eq_false (fun h => by rcases h with h | h; exact u0 h; exact absurd h.1 (by decide))
        go_wp2
        go_meet
        exact ⟨by rw [eu], rfl⟩
    case rest =>
      obtain ⟨rfl, hwc2⟩ := hcut
      have hwc2 := hwc2.symm
      subst hwc2
      go_upto_region 18 with (first | (go_at_call 19; refine (l1In_is _ _ _ _).mono ?_; rintro e w' ⟨rfl, hw'⟩; have hw' := hw'.symm; subst hw') | (go_at_call 43; refine (l7Named_is _ _).mono ?_; rintro e w' ⟨rfl, hw'⟩; have hw' := hw'.symm; subst hw') | (go_at_call 44; refine (l7Legs_is _ _).mono ?_; rintro e w' ⟨rfl, hw'⟩; have hw' := hw'.symm; subst hw'))
      go_cut [9] (fun c wx => c = .bool bw ∧ wx = W')
      case first =>
        by_cases u0 : now = 0
        · subst u0
          go_wp2
          go_meet
          exact ⟨by rw [HW.out, decide_eq_true (.inl rfl)], rfl⟩
        · have e0 : (now == 0) = false := by simpa using u0
          have eu : bw = false := by rw [HW.out]; exact decide_eq_false (fun h => by rcases h with h | h; exact u0 h; exact absurd h.1 (by decide))
          go_wp2
          go_meet
          exact ⟨by rw [eu], rfl⟩
      case rest =>
        obtain ⟨rfl, hwc3⟩ := hcut
        have hwc3 := hwc3.symm
        subst hwc3
        clear eo en el y0 y3 y10 y11
        cases bo with
        | false =>
          go_wp2
          go_ret
          exact ⟨by rw [HR.out]; simp, hb2⟩
        | true =>
          cases bn with
          | false =>
            go_wp2
            go_ret
            exact ⟨by rw [HR.out]; simp, hb2⟩
          | true =>
            cases bl with
            | false =>
              go_wp2
              go_ret
              exact ⟨by rw [HR.out]; simp, hb2⟩
            | true =>
              cases bp with
              | false =>
                go_wp2
                go_ret
                exact ⟨by rw [HR.out]; simp, hb2⟩
              | true =>
                cases bu with
                | false =>
                  go_wp2
                  go_ret
                  exact ⟨by rw [HR.out]; simp, hb2⟩
                | true =>
                  cases bw with
                  | false =>
                    go_wp2
                    go_ret
                    exact ⟨by rw [HR.out]; simp, hb2⟩
                  | true =>
                    go_wp2
                    go_ret
                    exact ⟨by rw [HR.out]; rfl, hb2⟩

set_option maxHeartbeats 3200000 in
set_option maxRecDepth 100000 in
theorem specOp_2 (own : ByteArray) (name : Int) (alg : Option Addr) (lgn clg : Nat) (lg : Nat → Int) (pe len hei cl : Int) (all : Bool) (be unt now : Int) (w : World) (hown : own.size ≤ 1000000000000000) :
    Calls Tryz.prog 18 #[.agg #[.int .i64 2, .string own, .int .i64 name, .slice alg lgn clg, .int .i64 pe, .int .i64 len, .int .i64 hei, .int .i64 cl, .bool all, .int .i64 be, .int .i64 unt, .int .i64 now]] w fun e w' => e = .returned (.bool (decide (OpOk ⟨2, own, name, lgn, lg, pe, len, hei, cl, all, be, unt, now⟩))) ∧ Below w.heap.size w w' := by
  obtain ⟨R, hR⟩ : ∃ R, R = decide (OpOk ⟨2, own, name, lgn, lg, pe, len, hei, cl, all, be, unt, now⟩) := ⟨_, rfl⟩
  rw [← hR]
  obtain ⟨bo, hbo⟩ : ∃ b, b = decide (OwnerOk 2 own) := ⟨_, rfl⟩
  obtain ⟨bn, hbn⟩ : ∃ b, b = decide (NameOk 2 name) := ⟨_, rfl⟩
  obtain ⟨bl, hbl⟩ : ∃ b, b = decide (LegsOkFor 2 lgn) := ⟨_, rfl⟩
  obtain ⟨bp, hbp⟩ : ∃ b, b = decide (PartyOkFor 2 ⟨pe, len, hei, cl, all, be⟩) := ⟨_, rfl⟩
  obtain ⟨bu, hbu⟩ : ∃ b, b = decide (UntilOk 2 unt) := ⟨_, rfl⟩
  obtain ⟨bw, hbw⟩ : ∃ b, b = decide (NowOk 2 now) := ⟨_, rfl⟩
  have HR : Hid (R = (bo && bn && bl && bp && bu && bw)) := by
    show R = (bo && bn && bl && bp && bu && bw)
    rw [hR, hbo, hbn, hbl, hbp, hbu, hbw]
    exact opOk_split (k := 2) (by unfold In; omega)
  clear hR
  have eo : decide (IsName own) = bo := by rw [hbo]; exact decide_eq_decide.2 (by unfold OwnerOk; simp)
  have en : (name == 0) = bn := by rw [hbn, name_zero name (k := 2) (by unfold In; omega)]
  have el : decide (In (lgn : Int) 1 3) = bl := by rw [hbl]; exact decide_eq_decide.2 (by unfold LegsOkFor HasLegs In; simp; omega)
  have HO : Hid (bp = decide (PartyOkFor 2 ⟨pe, len, hei, cl, all, be⟩)) := hbp
  have HU : Hid (bu = decide (UntilOk 2 unt)) := hbu
  have HW : Hid (bw = decide (NowOk 2 now)) := hbw
  clear hbo hbn hbl hbp hbu hbw
  have d9 : decide (In 2 1 9) = true := by decide
  have dn : decide (In 2 4 8) = false := by decide
  have dl : decide (HasLegs 2) = true := by decide
  have hb0 : Below w.heap.size w (w.alloc (.cells #[.int .i64 2, .string own, .int .i64 name, .slice alg lgn clg, .int .i64 pe, .int .i64 len, .int .i64 hei, .int .i64 cl, .bool all, .int .i64 be, .int .i64 unt, .int .i64 now] 27)) := push (Below.refl _ _) _
  have b0 := heap_alloc_new w (.cells #[.int .i64 2, .string own, .int .i64 name, .slice alg lgn clg, .int .i64 pe, .int .i64 len, .int .i64 hei, .int .i64 cl, .bool all, .int .i64 be, .int .i64 unt, .int .i64 now] 27)
  go_enter Tryz.func18, Tryz.ntmps18
  go_upto_region 11 with (first | (go_at_call 19; refine (l1In_is _ _ _ _).mono ?_; rintro e w' ⟨rfl, hw'⟩; have hw' := hw'.symm; subst hw') | (go_at_call 43; refine (l7Named_is _ _).mono ?_; rintro e w' ⟨rfl, hw'⟩; have hw' := hw'.symm; subst hw') | (go_at_call 44; refine (l7Legs_is _ _).mono ?_; rintro e w' ⟨rfl, hw'⟩; have hw' := hw'.symm; subst hw') | (go_at_call 42; refine (l1Name_is _ _ hown).mono ?_; rintro e w' ⟨rfl, hw'⟩; have hw' := hw'.symm; subst hw'))
  generalize w.alloc (.cells #[.int .i64 2, .string own, .int .i64 name, .slice alg lgn clg, .int .i64 pe, .int .i64 len, .int .i64 hei, .int .i64 cl, .bool all, .int .i64 be, .int .i64 unt, .int .i64 now] 27) = W at hb0 b0 ⊢
  have y0 := blk_cell b0 0 _ rfl
  have y1 := blk_cell b0 1 _ rfl
  have y2 := blk_cell b0 2 _ rfl
  have y3 := blk_cell b0 3 _ rfl
  have y4 := blk_cell b0 4 _ rfl
  have y5 := blk_cell b0 5 _ rfl
  have y6 := blk_cell b0 6 _ rfl
  have y7 := blk_cell b0 7 _ rfl
  have y8 := blk_cell b0 8 _ rfl
  have y9 := blk_cell b0 9 _ rfl
  have y10 := blk_cell b0 10 _ rfl
  have y11 := blk_cell b0 11 _ rfl
  go_cut [7] (fun c wx => c = .bool (PZ pe len hei cl all be) ∧ wx = W)
  case first =>
    by_cases gpe : pe = 0
    · subst gpe
      by_cases glen : len = 0
      · subst glen
        by_cases ghei : hei = 0
        · subst ghei
          by_cases gcl : cl = 0
          · subst gcl
            cases all with
            | true =>
              have hz : PZ 0 0 0 0 true be = false := pz_no (fun h => by cases h.2.2.2.2.1)
              go_wp2
              go_meet
              exact ⟨by rw [hz], rfl⟩
            | false =>
              by_cases gbe : be = 0
              · subst gbe
                go_wp2
                go_meet
                exact ⟨rfl, rfl⟩
              · have ebe : (be == 0) = false := by simpa using gbe
                have hz : PZ 0 0 0 0 false be = false := pz_no (fun h => gbe h.2.2.2.2.2)
                go_wp2
                go_meet
                exact ⟨by rw [hz], rfl⟩
          · have ecl : (cl == 0) = false := by simpa using gcl
            have hz : PZ 0 0 0 cl all be = false := pz_no (fun h => gcl h.2.2.2.1)
            go_wp2
            go_meet
            exact ⟨by rw [hz], rfl⟩
        · have ehei : (hei == 0) = false := by simpa using ghei
          have hz : PZ 0 0 hei cl all be = false := pz_no (fun h => ghei h.2.2.1)
          go_wp2
          go_meet
          exact ⟨by rw [hz], rfl⟩
      · have elen : (len == 0) = false := by simpa using glen
        have hz : PZ 0 len hei cl all be = false := pz_no (fun h => glen h.2.1)
        go_wp2
        go_meet
        exact ⟨by rw [hz], rfl⟩
    · have epe : (pe == 0) = false := by simpa using gpe
      have hz : PZ pe len hei cl all be = false := pz_no (fun h => gpe h.1)
      go_wp2
      go_meet
      exact ⟨by rw [hz], rfl⟩
  case rest =>
    obtain ⟨rfl, hwc⟩ := hcut
    have hwc := hwc.symm
    subst hwc
    generalize PZ pe len hei cl all be = pz at *
    go_wp2_with (first | (go_at_call 19; refine (l1In_is _ _ _ _).mono ?_; rintro e w' ⟨rfl, hw'⟩; have hw' := hw'.symm; subst hw') | (go_at_call 43; refine (l7Named_is _ _).mono ?_; rintro e w' ⟨rfl, hw'⟩; have hw' := hw'.symm; subst hw') | (go_at_call 44; refine (l7Legs_is _ _).mono ?_; rintro e w' ⟨rfl, hw'⟩; have hw' := hw'.symm; subst hw') | (go_at_call 42; refine (l1Name_is _ _ hown).mono ?_; rintro e w' ⟨rfl, hw'⟩; have hw' := hw'.symm; subst hw'))
    refine (specParty_any pe len hei cl all be _).mono ?_
    rintro e W' ⟨⟨q, rfl, hq⟩, hb1⟩
    obtain rfl : bp = q := by rw [HO.out]; exact party_says (k := 2) (.inr (.inl rfl)) hq
    have b1 := blk_below b0 hb1
    have hb2 := after hb0 hb1
    clear hb0 b0 hb1 hq y0 y1 y2 y3 y4 y5 y6 y7 y8 y9 y10 y11
    have y0 := blk_cell b1 0 _ rfl
    have y3 := blk_cell b1 3 _ rfl
    have y10 := blk_cell b1 10 _ rfl
    have y11 := blk_cell b1 11 _ rfl
    go_upto_region 17 with (first | (go_at_call 19; refine (l1In_is _ _ _ _).mono ?_; rintro e w' ⟨rfl, hw'⟩; have hw' := hw'.symm; subst hw') | (go_at_call 43; refine (l7Named_is _ _).mono ?_; rintro e w' ⟨rfl, hw'⟩; have hw' := hw'.symm; subst hw') | (go_at_call 44; refine (l7Legs_is _ _).mono ?_; rintro e w' ⟨rfl, hw'⟩; have hw' := hw'.symm; subst hw') | (go_at_call 42; refine (l1Name_is _ _ hown).mono ?_; rintro e w' ⟨rfl, hw'⟩; have hw' := hw'.symm; subst hw'))
    go_cut [8] (fun c wx => c = .bool bu ∧ wx = W')
    case first =>
      by_cases u0 : unt = 0
      · subst u0
        go_wp2
        go_meet
        exact ⟨by rw [HU.out, decide_eq_true (.inl rfl)], rfl⟩
      · have e0 : (unt == 0) = false := by simpa using u0
        have eu : decide (In unt 0 10000) = bu := by rw [HU.out]; exact decide_eq_decide.2 ⟨fun h => .inr ⟨rfl, h⟩, fun h => by rcases h with h | h; exact absurd h u0; exact h.2⟩
        go_wp2_with (first | (go_at_call 19; refine (l1In_is _ _ _ _).mono ?_; rintro e w' ⟨rfl, hw'⟩; have hw' := hw'.symm; subst hw') | (go_at_call 43; refine (l7Named_is _ _).mono ?_; rintro e w' ⟨rfl, hw'⟩; have hw' := hw'.symm; subst hw') | (go_at_call 44; refine (l7Legs_is _ _).mono ?_; rintro e w' ⟨rfl, hw'⟩; have hw' := hw'.symm; subst hw') | (go_at_call 42; refine (l1Name_is _ _ hown).mono ?_; rintro e w' ⟨rfl, hw'⟩; have hw' := hw'.symm; subst hw'))
        go_meet
        exact ⟨rfl, rfl⟩
    case rest =>
      obtain ⟨rfl, hwc2⟩ := hcut
      have hwc2 := hwc2.symm
      subst hwc2
      go_upto_region 18 with (first | (go_at_call 19; refine (l1In_is _ _ _ _).mono ?_; rintro e w' ⟨rfl, hw'⟩; have hw' := hw'.symm; subst hw') | (go_at_call 43; refine (l7Named_is _ _).mono ?_; rintro e w' ⟨rfl, hw'⟩; have hw' := hw'.symm; subst hw') | (go_at_call 44; refine (l7Legs_is _ _).mono ?_; rintro e w' ⟨rfl, hw'⟩; have hw' := hw'.symm; subst hw') | (go_at_call 42; refine (l1Name_is _ _ hown).mono ?_; rintro e w' ⟨rfl, hw'⟩; have hw' := hw'.symm; subst hw'))
      go_cut [9] (fun c wx => c = .bool bw ∧ wx = W')
      case first =>
        by_cases u0 : now = 0
        · subst u0
          go_wp2
          go_meet
          exact ⟨by rw [HW.out, decide_eq_true (.inl rfl)], rfl⟩
        · have e0 : (now == 0) = false := by simpa using u0
          have eu : bw = false := by rw [HW.out]; exact decide_eq_false (fun h => by rcases h with h | h; exact u0 h; exact absurd h.1 (by decide))
          go_wp2
          go_meet
          exact ⟨by rw [eu], rfl⟩
      case rest =>
        obtain ⟨rfl, hwc3⟩ := hcut
        have hwc3 := hwc3.symm
        subst hwc3
        clear eo en el y0 y3 y10 y11
        cases bo with
        | false =>
          go_wp2
          go_ret
          exact ⟨by rw [HR.out]; simp, hb2⟩
        | true =>
          cases bn with
          | false =>
            go_wp2
            go_ret
            exact ⟨by rw [HR.out]; simp, hb2⟩
          | true =>
            cases bl with
            | false =>
              go_wp2
              go_ret
              exact ⟨by rw [HR.out]; simp, hb2⟩
            | true =>
              cases bp with
              | false =>
                go_wp2
                go_ret
                exact ⟨by rw [HR.out]; simp, hb2⟩
              | true =>
                cases bu with
                | false =>
                  go_wp2
                  go_ret
                  exact ⟨by rw [HR.out]; simp, hb2⟩
                | true =>
                  cases bw with
                  | false =>
                    go_wp2
                    go_ret
                    exact ⟨by rw [HR.out]; simp, hb2⟩
                  | true =>
                    go_wp2
                    go_ret
                    exact ⟨by rw [HR.out]; rfl, hb2⟩

set_option maxHeartbeats 3200000 in
set_option maxRecDepth 100000 in
theorem specOp_3 (own : ByteArray) (name : Int) (alg : Option Addr) (lgn clg : Nat) (lg : Nat → Int) (pe len hei cl : Int) (all : Bool) (be unt now : Int) (w : World) (hown : own.size ≤ 1000000000000000) :
    Calls Tryz.prog 18 #[.agg #[.int .i64 3, .string own, .int .i64 name, .slice alg lgn clg, .int .i64 pe, .int .i64 len, .int .i64 hei, .int .i64 cl, .bool all, .int .i64 be, .int .i64 unt, .int .i64 now]] w fun e w' => e = .returned (.bool (decide (OpOk ⟨3, own, name, lgn, lg, pe, len, hei, cl, all, be, unt, now⟩))) ∧ Below w.heap.size w w' := by
  obtain ⟨R, hR⟩ : ∃ R, R = decide (OpOk ⟨3, own, name, lgn, lg, pe, len, hei, cl, all, be, unt, now⟩) := ⟨_, rfl⟩
  rw [← hR]
  obtain ⟨bo, hbo⟩ : ∃ b, b = decide (OwnerOk 3 own) := ⟨_, rfl⟩
  obtain ⟨bn, hbn⟩ : ∃ b, b = decide (NameOk 3 name) := ⟨_, rfl⟩
  obtain ⟨bl, hbl⟩ : ∃ b, b = decide (LegsOkFor 3 lgn) := ⟨_, rfl⟩
  obtain ⟨bp, hbp⟩ : ∃ b, b = decide (PartyOkFor 3 ⟨pe, len, hei, cl, all, be⟩) := ⟨_, rfl⟩
  obtain ⟨bu, hbu⟩ : ∃ b, b = decide (UntilOk 3 unt) := ⟨_, rfl⟩
  obtain ⟨bw, hbw⟩ : ∃ b, b = decide (NowOk 3 now) := ⟨_, rfl⟩
  have HR : Hid (R = (bo && bn && bl && bp && bu && bw)) := by
    show R = (bo && bn && bl && bp && bu && bw)
    rw [hR, hbo, hbn, hbl, hbp, hbu, hbw]
    exact opOk_split (k := 3) (by unfold In; omega)
  clear hR
  have eo : decide (IsName own) = bo := by rw [hbo]; exact decide_eq_decide.2 (by unfold OwnerOk; simp)
  have en : (name == 0) = bn := by rw [hbn, name_zero name (k := 3) (by unfold In; omega)]
  have el : decide (In (lgn : Int) 1 3) = bl := by rw [hbl]; exact decide_eq_decide.2 (by unfold LegsOkFor HasLegs In; simp; omega)
  have HO : Hid (bp = decide (PartyOkFor 3 ⟨pe, len, hei, cl, all, be⟩)) := hbp
  have HU : Hid (bu = decide (UntilOk 3 unt)) := hbu
  have HW : Hid (bw = decide (NowOk 3 now)) := hbw
  clear hbo hbn hbl hbp hbu hbw
  have d9 : decide (In 3 1 9) = true := by decide
  have dn : decide (In 3 4 8) = false := by decide
  have dl : decide (HasLegs 3) = true := by decide
  have hb0 : Below w.heap.size w (w.alloc (.cells #[.int .i64 3, .string own, .int .i64 name, .slice alg lgn clg, .int .i64 pe, .int .i64 len, .int .i64 hei, .int .i64 cl, .bool all, .int .i64 be, .int .i64 unt, .int .i64 now] 27)) := push (Below.refl _ _) _
  have b0 := heap_alloc_new w (.cells #[.int .i64 3, .string own, .int .i64 name, .slice alg lgn clg, .int .i64 pe, .int .i64 len, .int .i64 hei, .int .i64 cl, .bool all, .int .i64 be, .int .i64 unt, .int .i64 now] 27)
  go_enter Tryz.func18, Tryz.ntmps18
  go_upto_region 11 with (first | (go_at_call 19; refine (l1In_is _ _ _ _).mono ?_; rintro e w' ⟨rfl, hw'⟩; have hw' := hw'.symm; subst hw') | (go_at_call 43; refine (l7Named_is _ _).mono ?_; rintro e w' ⟨rfl, hw'⟩; have hw' := hw'.symm; subst hw') | (go_at_call 44; refine (l7Legs_is _ _).mono ?_; rintro e w' ⟨rfl, hw'⟩; have hw' := hw'.symm; subst hw') | (go_at_call 42; refine (l1Name_is _ _ hown).mono ?_; rintro e w' ⟨rfl, hw'⟩; have hw' := hw'.symm; subst hw'))
  generalize w.alloc (.cells #[.int .i64 3, .string own, .int .i64 name, .slice alg lgn clg, .int .i64 pe, .int .i64 len, .int .i64 hei, .int .i64 cl, .bool all, .int .i64 be, .int .i64 unt, .int .i64 now] 27) = W at hb0 b0 ⊢
  have y0 := blk_cell b0 0 _ rfl
  have y1 := blk_cell b0 1 _ rfl
  have y2 := blk_cell b0 2 _ rfl
  have y3 := blk_cell b0 3 _ rfl
  have y4 := blk_cell b0 4 _ rfl
  have y5 := blk_cell b0 5 _ rfl
  have y6 := blk_cell b0 6 _ rfl
  have y7 := blk_cell b0 7 _ rfl
  have y8 := blk_cell b0 8 _ rfl
  have y9 := blk_cell b0 9 _ rfl
  have y10 := blk_cell b0 10 _ rfl
  have y11 := blk_cell b0 11 _ rfl
  go_cut [7] (fun c wx => c = .bool (PZ pe len hei cl all be) ∧ wx = W)
  case first =>
    by_cases gpe : pe = 0
    · subst gpe
      by_cases glen : len = 0
      · subst glen
        by_cases ghei : hei = 0
        · subst ghei
          by_cases gcl : cl = 0
          · subst gcl
            cases all with
            | true =>
              have hz : PZ 0 0 0 0 true be = false := pz_no (fun h => by cases h.2.2.2.2.1)
              go_wp2
              go_meet
              exact ⟨by rw [hz], rfl⟩
            | false =>
              by_cases gbe : be = 0
              · subst gbe
                go_wp2
                go_meet
                exact ⟨rfl, rfl⟩
              · have ebe : (be == 0) = false := by simpa using gbe
                have hz : PZ 0 0 0 0 false be = false := pz_no (fun h => gbe h.2.2.2.2.2)
                go_wp2
                go_meet
                exact ⟨by rw [hz], rfl⟩
          · have ecl : (cl == 0) = false := by simpa using gcl
            have hz : PZ 0 0 0 cl all be = false := pz_no (fun h => gcl h.2.2.2.1)
            go_wp2
            go_meet
            exact ⟨by rw [hz], rfl⟩
        · have ehei : (hei == 0) = false := by simpa using ghei
          have hz : PZ 0 0 hei cl all be = false := pz_no (fun h => ghei h.2.2.1)
          go_wp2
          go_meet
          exact ⟨by rw [hz], rfl⟩
      · have elen : (len == 0) = false := by simpa using glen
        have hz : PZ 0 len hei cl all be = false := pz_no (fun h => glen h.2.1)
        go_wp2
        go_meet
        exact ⟨by rw [hz], rfl⟩
    · have epe : (pe == 0) = false := by simpa using gpe
      have hz : PZ pe len hei cl all be = false := pz_no (fun h => gpe h.1)
      go_wp2
      go_meet
      exact ⟨by rw [hz], rfl⟩
  case rest =>
    obtain ⟨rfl, hwc⟩ := hcut
    have hwc := hwc.symm
    subst hwc
    generalize PZ pe len hei cl all be = pz at *
    go_wp2_with (first | (go_at_call 19; refine (l1In_is _ _ _ _).mono ?_; rintro e w' ⟨rfl, hw'⟩; have hw' := hw'.symm; subst hw') | (go_at_call 43; refine (l7Named_is _ _).mono ?_; rintro e w' ⟨rfl, hw'⟩; have hw' := hw'.symm; subst hw') | (go_at_call 44; refine (l7Legs_is _ _).mono ?_; rintro e w' ⟨rfl, hw'⟩; have hw' := hw'.symm; subst hw') | (go_at_call 42; refine (l1Name_is _ _ hown).mono ?_; rintro e w' ⟨rfl, hw'⟩; have hw' := hw'.symm; subst hw'))
    refine (specParty_any pe len hei cl all be _).mono ?_
    rintro e W' ⟨⟨q, rfl, hq⟩, hb1⟩
    obtain rfl : bp = q := by rw [HO.out]; exact party_says (k := 3) (.inr (.inr (.inl rfl))) hq
    have b1 := blk_below b0 hb1
    have hb2 := after hb0 hb1
    clear hb0 b0 hb1 hq y0 y1 y2 y3 y4 y5 y6 y7 y8 y9 y10 y11
    have y0 := blk_cell b1 0 _ rfl
    have y3 := blk_cell b1 3 _ rfl
    have y10 := blk_cell b1 10 _ rfl
    have y11 := blk_cell b1 11 _ rfl
    go_upto_region 17 with (first | (go_at_call 19; refine (l1In_is _ _ _ _).mono ?_; rintro e w' ⟨rfl, hw'⟩; have hw' := hw'.symm; subst hw') | (go_at_call 43; refine (l7Named_is _ _).mono ?_; rintro e w' ⟨rfl, hw'⟩; have hw' := hw'.symm; subst hw') | (go_at_call 44; refine (l7Legs_is _ _).mono ?_; rintro e w' ⟨rfl, hw'⟩; have hw' := hw'.symm; subst hw') | (go_at_call 42; refine (l1Name_is _ _ hown).mono ?_; rintro e w' ⟨rfl, hw'⟩; have hw' := hw'.symm; subst hw'))
    go_cut [8] (fun c wx => c = .bool bu ∧ wx = W')
    case first =>
      by_cases u0 : unt = 0
      · subst u0
        go_wp2
        go_meet
        exact ⟨by rw [HU.out, decide_eq_true (.inl rfl)], rfl⟩
      · have e0 : (unt == 0) = false := by simpa using u0
        have eu : bu = false := by rw [HU.out]; exact decide_eq_false (fun h => by rcases h with h | h; exact u0 h; exact absurd h.1 (by decide))
        go_wp2
        go_meet
        exact ⟨by rw [eu], rfl⟩
    case rest =>
      obtain ⟨rfl, hwc2⟩ := hcut
      have hwc2 := hwc2.symm
      subst hwc2
      go_upto_region 18 with (first | (go_at_call 19; refine (l1In_is _ _ _ _).mono ?_; rintro e w' ⟨rfl, hw'⟩; have hw' := hw'.symm; subst hw') | (go_at_call 43; refine (l7Named_is _ _).mono ?_; rintro e w' ⟨rfl, hw'⟩; have hw' := hw'.symm; subst hw') | (go_at_call 44; refine (l7Legs_is _ _).mono ?_; rintro e w' ⟨rfl, hw'⟩; have hw' := hw'.symm; subst hw') | (go_at_call 42; refine (l1Name_is _ _ hown).mono ?_; rintro e w' ⟨rfl, hw'⟩; have hw' := hw'.symm; subst hw'))
      go_cut [9] (fun c wx => c = .bool bw ∧ wx = W')
      case first =>
        by_cases u0 : now = 0
        · subst u0
          go_wp2
          go_meet
          exact ⟨by rw [HW.out, decide_eq_true (.inl rfl)], rfl⟩
        · have e0 : (now == 0) = false := by simpa using u0
          have eu : bw = false := by rw [HW.out]; exact decide_eq_false (fun h => by rcases h with h | h; exact u0 h; exact absurd h.1 (by decide))
          go_wp2
          go_meet
          exact ⟨by rw [eu], rfl⟩
      case rest =>
        obtain ⟨rfl, hwc3⟩ := hcut
        have hwc3 := hwc3.symm
        subst hwc3
        clear eo en el y0 y3 y10 y11
        cases bo with
        | false =>
          go_wp2
          go_ret
          exact ⟨by rw [HR.out]; simp, hb2⟩
        | true =>
          cases bn with
          | false =>
            go_wp2
            go_ret
            exact ⟨by rw [HR.out]; simp, hb2⟩
          | true =>
            cases bl with
            | false =>
              go_wp2
              go_ret
              exact ⟨by rw [HR.out]; simp, hb2⟩
            | true =>
              cases bp with
              | false =>
                go_wp2
                go_ret
                exact ⟨by rw [HR.out]; simp, hb2⟩
              | true =>
                cases bu with
                | false =>
                  go_wp2
                  go_ret
                  exact ⟨by rw [HR.out]; simp, hb2⟩
                | true =>
                  cases bw with
                  | false =>
                    go_wp2
                    go_ret
                    exact ⟨by rw [HR.out]; simp, hb2⟩
                  | true =>
                    go_wp2
                    go_ret
                    exact ⟨by rw [HR.out]; rfl, hb2⟩

end Go.Proofs.YtfallpinmhbemaaGreatDoor

namespace Go.Proofs.YtfallpinmhbemaaGreatDoor
open Go.RowKit

set_option maxHeartbeats 3200000 in
set_option maxRecDepth 100000 in
theorem specOp_4 (own : ByteArray) (name : Int) (alg : Option Addr) (lgn clg : Nat) (lg : Nat → Int) (pe len hei cl : Int) (all : Bool) (be unt now : Int) (w : World) (_ : own.size ≤ 1000000000000000) :
    Calls Tryz.prog 18 #[.agg #[.int .i64 4, .string own, .int .i64 name, .slice alg lgn clg, .int .i64 pe, .int .i64 len, .int .i64 hei, .int .i64 cl, .bool all, .int .i64 be, .int .i64 unt, .int .i64 now]] w fun e w' => e = .returned (.bool (decide (OpOk ⟨4, own, name, lgn, lg, pe, len, hei, cl, all, be, unt, now⟩))) ∧ Below w.heap.size w w' := by
  obtain ⟨R, hR⟩ : ∃ R, R = decide (OpOk ⟨4, own, name, lgn, lg, pe, len, hei, cl, all, be, unt, now⟩) := ⟨_, rfl⟩
  rw [← hR]
  obtain ⟨bo, hbo⟩ : ∃ b, b = decide (OwnerOk 4 own) := ⟨_, rfl⟩
  obtain ⟨bn, hbn⟩ : ∃ b, b = decide (NameOk 4 name) := ⟨_, rfl⟩
  obtain ⟨bl, hbl⟩ : ∃ b, b = decide (LegsOkFor 4 lgn) := ⟨_, rfl⟩
  obtain ⟨bp, hbp⟩ : ∃ b, b = decide (PartyOkFor 4 ⟨pe, len, hei, cl, all, be⟩) := ⟨_, rfl⟩
  obtain ⟨bu, hbu⟩ : ∃ b, b = decide (UntilOk 4 unt) := ⟨_, rfl⟩
  obtain ⟨bw, hbw⟩ : ∃ b, b = decide (NowOk 4 now) := ⟨_, rfl⟩
  have HR : Hid (R = (bo && bn && bl && bp && bu && bw)) := by
    show R = (bo && bn && bl && bp && bu && bw)
    rw [hR, hbo, hbn, hbl, hbp, hbu, hbw]
    exact opOk_split (k := 4) (by unfold In; omega)
  clear hR
  have eo : own.toList.isEmpty = bo := by rw [hbo, owner_empty own (k := 4) (by omega)]
  have en : decide (In name 1 30) = bn := by rw [hbn]; exact decide_eq_decide.2 (by unfold NameOk In; simp)
  have el : ((lgn : Int) == 0) = bl := by rw [hbl, int_zero]; exact decide_eq_decide.2 (by unfold LegsOkFor HasLegs; simp)
  have HO : Hid (bp = decide (PartyOkFor 4 ⟨pe, len, hei, cl, all, be⟩)) := hbp
  have HU : Hid (bu = decide (UntilOk 4 unt)) := hbu
  have HW : Hid (bw = decide (NowOk 4 now)) := hbw
  clear hbo hbn hbl hbp hbu hbw
  have d9 : decide (In 4 1 9) = true := by decide
  have dn : decide (In 4 4 8) = true := by decide
  have dl : decide (HasLegs 4) = false := by decide
  have hb0 : Below w.heap.size w (w.alloc (.cells #[.int .i64 4, .string own, .int .i64 name, .slice alg lgn clg, .int .i64 pe, .int .i64 len, .int .i64 hei, .int .i64 cl, .bool all, .int .i64 be, .int .i64 unt, .int .i64 now] 27)) := push (Below.refl _ _) _
  have b0 := heap_alloc_new w (.cells #[.int .i64 4, .string own, .int .i64 name, .slice alg lgn clg, .int .i64 pe, .int .i64 len, .int .i64 hei, .int .i64 cl, .bool all, .int .i64 be, .int .i64 unt, .int .i64 now] 27)
  go_enter Tryz.func18, Tryz.ntmps18
  go_upto_region 11 with (first | (go_at_call 19; refine (l1In_is _ _ _ _).mono ?_; rintro e w' ⟨rfl, hw'⟩; have hw' := hw'.symm; subst hw') | (go_at_call 43; refine (l7Named_is _ _).mono ?_; rintro e w' ⟨rfl, hw'⟩; have hw' := hw'.symm; subst hw') | (go_at_call 44; refine (l7Legs_is _ _).mono ?_; rintro e w' ⟨rfl, hw'⟩; have hw' := hw'.symm; subst hw'))
  generalize w.alloc (.cells #[.int .i64 4, .string own, .int .i64 name, .slice alg lgn clg, .int .i64 pe, .int .i64 len, .int .i64 hei, .int .i64 cl, .bool all, .int .i64 be, .int .i64 unt, .int .i64 now] 27) = W at hb0 b0 ⊢
  have y0 := blk_cell b0 0 _ rfl
  have y1 := blk_cell b0 1 _ rfl
  have y2 := blk_cell b0 2 _ rfl
  have y3 := blk_cell b0 3 _ rfl
  have y4 := blk_cell b0 4 _ rfl
  have y5 := blk_cell b0 5 _ rfl
  have y6 := blk_cell b0 6 _ rfl
  have y7 := blk_cell b0 7 _ rfl
  have y8 := blk_cell b0 8 _ rfl
  have y9 := blk_cell b0 9 _ rfl
  have y10 := blk_cell b0 10 _ rfl
  have y11 := blk_cell b0 11 _ rfl
  go_cut [7] (fun c wx => c = .bool (PZ pe len hei cl all be) ∧ wx = W)
  case first =>
    by_cases gpe : pe = 0
    · subst gpe
      by_cases glen : len = 0
      · subst glen
        by_cases ghei : hei = 0
        · subst ghei
          by_cases gcl : cl = 0
          · subst gcl
            cases all with
            | true =>
              have hz : PZ 0 0 0 0 true be = false := pz_no (fun h => by cases h.2.2.2.2.1)
              go_wp2
              go_meet
              exact ⟨by rw [hz], rfl⟩
            | false =>
              by_cases gbe : be = 0
              · subst gbe
                go_wp2
                go_meet
                exact ⟨rfl, rfl⟩
              · have ebe : (be == 0) = false := by simpa using gbe
                have hz : PZ 0 0 0 0 false be = false := pz_no (fun h => gbe h.2.2.2.2.2)
                go_wp2
                go_meet
                exact ⟨by rw [hz], rfl⟩
          · have ecl : (cl == 0) = false := by simpa using gcl
            have hz : PZ 0 0 0 cl all be = false := pz_no (fun h => gcl h.2.2.2.1)
            go_wp2
            go_meet
            exact ⟨by rw [hz], rfl⟩
        · have ehei : (hei == 0) = false := by simpa using ghei
          have hz : PZ 0 0 hei cl all be = false := pz_no (fun h => ghei h.2.2.1)
          go_wp2
          go_meet
          exact ⟨by rw [hz], rfl⟩
      · have elen : (len == 0) = false := by simpa using glen
        have hz : PZ 0 len hei cl all be = false := pz_no (fun h => glen h.2.1)
        go_wp2
        go_meet
        exact ⟨by rw [hz], rfl⟩
    · have epe : (pe == 0) = false := by simpa using gpe
      have hz : PZ pe len hei cl all be = false := pz_no (fun h => gpe h.1)
      go_wp2
      go_meet
      exact ⟨by rw [hz], rfl⟩
  case rest =>
    obtain ⟨rfl, hwc⟩ := hcut
    have hwc := hwc.symm
    subst hwc
    obtain rfl : PZ pe len hei cl all be = bp := by rw [HO.out]; exact party_none (k := 4) (by unfold HasLegs; omega)
    generalize PZ pe len hei cl all be = bp at *
    have hb2 := hb0
    clear hb0 b0
    go_upto_region 17 with (first | (go_at_call 19; refine (l1In_is _ _ _ _).mono ?_; rintro e w' ⟨rfl, hw'⟩; have hw' := hw'.symm; subst hw') | (go_at_call 43; refine (l7Named_is _ _).mono ?_; rintro e w' ⟨rfl, hw'⟩; have hw' := hw'.symm; subst hw') | (go_at_call 44; refine (l7Legs_is _ _).mono ?_; rintro e w' ⟨rfl, hw'⟩; have hw' := hw'.symm; subst hw'))
    go_cut [8] (fun c wx => c = .bool bu ∧ wx = W)
    case first =>
      by_cases u0 : unt = 0
      · subst u0
        go_wp2
        go_meet
        exact ⟨by rw [HU.out, decide_eq_true (.inl rfl)], rfl⟩
      · have e0 : (unt == 0) = false := by simpa using u0
        have eu : bu = false := by rw [HU.out]; exact decide_eq_false (fun h => by rcases h with h | h; exact u0 h; exact absurd h.1 (by decide))
        go_wp2
        go_meet
        exact ⟨by rw [eu], rfl⟩
    case rest =>
      obtain ⟨rfl, hwc2⟩ := hcut
      have hwc2 := hwc2.symm
      subst hwc2
      go_upto_region 18 with (first | (go_at_call 19; refine (l1In_is _ _ _ _).mono ?_; rintro e w' ⟨rfl, hw'⟩; have hw' := hw'.symm; subst hw') | (go_at_call 43; refine (l7Named_is _ _).mono ?_; rintro e w' ⟨rfl, hw'⟩; have hw' := hw'.symm; subst hw') | (go_at_call 44; refine (l7Legs_is _ _).mono ?_; rintro e w' ⟨rfl, hw'⟩; have hw' := hw'.symm; subst hw'))
      go_cut [9] (fun c wx => c = .bool bw ∧ wx = W)
      case first =>
        by_cases u0 : now = 0
        · subst u0
          go_wp2
          go_meet
          exact ⟨by rw [HW.out, decide_eq_true (.inl rfl)], rfl⟩
        · have e0 : (now == 0) = false := by simpa using u0
          have eu : bw = false := by rw [HW.out]; exact decide_eq_false (fun h => by rcases h with h | h; exact u0 h; exact absurd h.1 (by decide))
          go_wp2
          go_meet
          exact ⟨by rw [eu], rfl⟩
      case rest =>
        obtain ⟨rfl, hwc3⟩ := hcut
        have hwc3 := hwc3.symm
        subst hwc3
        clear eo en el y0 y1 y2 y3 y4 y5 y6 y7 y8 y9 y10 y11
        cases bo with
        | false =>
          go_wp2
          go_ret
          exact ⟨by rw [HR.out]; simp, hb2⟩
        | true =>
          cases bn with
          | false =>
            go_wp2
            go_ret
            exact ⟨by rw [HR.out]; simp, hb2⟩
          | true =>
            cases bl with
            | false =>
              go_wp2
              go_ret
              exact ⟨by rw [HR.out]; simp, hb2⟩
            | true =>
              cases bp with
              | false =>
                go_wp2
                go_ret
                exact ⟨by rw [HR.out]; simp, hb2⟩
              | true =>
                cases bu with
                | false =>
                  go_wp2
                  go_ret
                  exact ⟨by rw [HR.out]; simp, hb2⟩
                | true =>
                  cases bw with
                  | false =>
                    go_wp2
                    go_ret
                    exact ⟨by rw [HR.out]; simp, hb2⟩
                  | true =>
                    go_wp2
                    go_ret
                    exact ⟨by rw [HR.out]; rfl, hb2⟩

set_option maxHeartbeats 3200000 in
set_option maxRecDepth 100000 in
theorem specOp_5 (own : ByteArray) (name : Int) (alg : Option Addr) (lgn clg : Nat) (lg : Nat → Int) (pe len hei cl : Int) (all : Bool) (be unt now : Int) (w : World) (_ : own.size ≤ 1000000000000000) :
    Calls Tryz.prog 18 #[.agg #[.int .i64 5, .string own, .int .i64 name, .slice alg lgn clg, .int .i64 pe, .int .i64 len, .int .i64 hei, .int .i64 cl, .bool all, .int .i64 be, .int .i64 unt, .int .i64 now]] w fun e w' => e = .returned (.bool (decide (OpOk ⟨5, own, name, lgn, lg, pe, len, hei, cl, all, be, unt, now⟩))) ∧ Below w.heap.size w w' := by
  obtain ⟨R, hR⟩ : ∃ R, R = decide (OpOk ⟨5, own, name, lgn, lg, pe, len, hei, cl, all, be, unt, now⟩) := ⟨_, rfl⟩
  rw [← hR]
  obtain ⟨bo, hbo⟩ : ∃ b, b = decide (OwnerOk 5 own) := ⟨_, rfl⟩
  obtain ⟨bn, hbn⟩ : ∃ b, b = decide (NameOk 5 name) := ⟨_, rfl⟩
  obtain ⟨bl, hbl⟩ : ∃ b, b = decide (LegsOkFor 5 lgn) := ⟨_, rfl⟩
  obtain ⟨bp, hbp⟩ : ∃ b, b = decide (PartyOkFor 5 ⟨pe, len, hei, cl, all, be⟩) := ⟨_, rfl⟩
  obtain ⟨bu, hbu⟩ : ∃ b, b = decide (UntilOk 5 unt) := ⟨_, rfl⟩
  obtain ⟨bw, hbw⟩ : ∃ b, b = decide (NowOk 5 now) := ⟨_, rfl⟩
  have HR : Hid (R = (bo && bn && bl && bp && bu && bw)) := by
    show R = (bo && bn && bl && bp && bu && bw)
    rw [hR, hbo, hbn, hbl, hbp, hbu, hbw]
    exact opOk_split (k := 5) (by unfold In; omega)
  clear hR
  have eo : own.toList.isEmpty = bo := by rw [hbo, owner_empty own (k := 5) (by omega)]
  have en : decide (In name 1 30) = bn := by rw [hbn]; exact decide_eq_decide.2 (by unfold NameOk In; simp)
  have el : decide (In (lgn : Int) 1 3) = bl := by rw [hbl]; exact decide_eq_decide.2 (by unfold LegsOkFor HasLegs In; simp; omega)
  have HO : Hid (bp = decide (PartyOkFor 5 ⟨pe, len, hei, cl, all, be⟩)) := hbp
  have HU : Hid (bu = decide (UntilOk 5 unt)) := hbu
  have HW : Hid (bw = decide (NowOk 5 now)) := hbw
  clear hbo hbn hbl hbp hbu hbw
  have d9 : decide (In 5 1 9) = true := by decide
  have dn : decide (In 5 4 8) = true := by decide
  have dl : decide (HasLegs 5) = true := by decide
  have hb0 : Below w.heap.size w (w.alloc (.cells #[.int .i64 5, .string own, .int .i64 name, .slice alg lgn clg, .int .i64 pe, .int .i64 len, .int .i64 hei, .int .i64 cl, .bool all, .int .i64 be, .int .i64 unt, .int .i64 now] 27)) := push (Below.refl _ _) _
  have b0 := heap_alloc_new w (.cells #[.int .i64 5, .string own, .int .i64 name, .slice alg lgn clg, .int .i64 pe, .int .i64 len, .int .i64 hei, .int .i64 cl, .bool all, .int .i64 be, .int .i64 unt, .int .i64 now] 27)
  go_enter Tryz.func18, Tryz.ntmps18
  go_upto_region 11 with (first | (go_at_call 19; refine (l1In_is _ _ _ _).mono ?_; rintro e w' ⟨rfl, hw'⟩; have hw' := hw'.symm; subst hw') | (go_at_call 43; refine (l7Named_is _ _).mono ?_; rintro e w' ⟨rfl, hw'⟩; have hw' := hw'.symm; subst hw') | (go_at_call 44; refine (l7Legs_is _ _).mono ?_; rintro e w' ⟨rfl, hw'⟩; have hw' := hw'.symm; subst hw'))
  generalize w.alloc (.cells #[.int .i64 5, .string own, .int .i64 name, .slice alg lgn clg, .int .i64 pe, .int .i64 len, .int .i64 hei, .int .i64 cl, .bool all, .int .i64 be, .int .i64 unt, .int .i64 now] 27) = W at hb0 b0 ⊢
  have y0 := blk_cell b0 0 _ rfl
  have y1 := blk_cell b0 1 _ rfl
  have y2 := blk_cell b0 2 _ rfl
  have y3 := blk_cell b0 3 _ rfl
  have y4 := blk_cell b0 4 _ rfl
  have y5 := blk_cell b0 5 _ rfl
  have y6 := blk_cell b0 6 _ rfl
  have y7 := blk_cell b0 7 _ rfl
  have y8 := blk_cell b0 8 _ rfl
  have y9 := blk_cell b0 9 _ rfl
  have y10 := blk_cell b0 10 _ rfl
  have y11 := blk_cell b0 11 _ rfl
  go_cut [7] (fun c wx => c = .bool (PZ pe len hei cl all be) ∧ wx = W)
  case first =>
    by_cases gpe : pe = 0
    · subst gpe
      by_cases glen : len = 0
      · subst glen
        by_cases ghei : hei = 0
        · subst ghei
          by_cases gcl : cl = 0
          · subst gcl
            cases all with
            | true =>
              have hz : PZ 0 0 0 0 true be = false := pz_no (fun h => by cases h.2.2.2.2.1)
              go_wp2
              go_meet
              exact ⟨by rw [hz], rfl⟩
            | false =>
              by_cases gbe : be = 0
              · subst gbe
                go_wp2
                go_meet
                exact ⟨rfl, rfl⟩
              · have ebe : (be == 0) = false := by simpa using gbe
                have hz : PZ 0 0 0 0 false be = false := pz_no (fun h => gbe h.2.2.2.2.2)
                go_wp2
                go_meet
                exact ⟨by rw [hz], rfl⟩
          · have ecl : (cl == 0) = false := by simpa using gcl
            have hz : PZ 0 0 0 cl all be = false := pz_no (fun h => gcl h.2.2.2.1)
            go_wp2
            go_meet
            exact ⟨by rw [hz], rfl⟩
        · have ehei : (hei == 0) = false := by simpa using ghei
          have hz : PZ 0 0 hei cl all be = false := pz_no (fun h => ghei h.2.2.1)
          go_wp2
          go_meet
          exact ⟨by rw [hz], rfl⟩
      · have elen : (len == 0) = false := by simpa using glen
        have hz : PZ 0 len hei cl all be = false := pz_no (fun h => glen h.2.1)
        go_wp2
        go_meet
        exact ⟨by rw [hz], rfl⟩
    · have epe : (pe == 0) = false := by simpa using gpe
      have hz : PZ pe len hei cl all be = false := pz_no (fun h => gpe h.1)
      go_wp2
      go_meet
      exact ⟨by rw [hz], rfl⟩
  case rest =>
    obtain ⟨rfl, hwc⟩ := hcut
    have hwc := hwc.symm
    subst hwc
    generalize PZ pe len hei cl all be = pz at *
    go_wp2_with (first | (go_at_call 19; refine (l1In_is _ _ _ _).mono ?_; rintro e w' ⟨rfl, hw'⟩; have hw' := hw'.symm; subst hw') | (go_at_call 43; refine (l7Named_is _ _).mono ?_; rintro e w' ⟨rfl, hw'⟩; have hw' := hw'.symm; subst hw') | (go_at_call 44; refine (l7Legs_is _ _).mono ?_; rintro e w' ⟨rfl, hw'⟩; have hw' := hw'.symm; subst hw'))
    refine (specParty_any pe len hei cl all be _).mono ?_
    rintro e W' ⟨⟨q, rfl, hq⟩, hb1⟩
    obtain rfl : bp = q := by rw [HO.out]; exact party_says (k := 5) (.inr (.inr (.inr rfl))) hq
    have b1 := blk_below b0 hb1
    have hb2 := after hb0 hb1
    clear hb0 b0 hb1 hq y0 y1 y2 y3 y4 y5 y6 y7 y8 y9 y10 y11
    have y0 := blk_cell b1 0 _ rfl
    have y3 := blk_cell b1 3 _ rfl
    have y10 := blk_cell b1 10 _ rfl
    have y11 := blk_cell b1 11 _ rfl
    go_upto_region 17 with (first | (go_at_call 19; refine (l1In_is _ _ _ _).mono ?_; rintro e w' ⟨rfl, hw'⟩; have hw' := hw'.symm; subst hw') | (go_at_call 43; refine (l7Named_is _ _).mono ?_; rintro e w' ⟨rfl, hw'⟩; have hw' := hw'.symm; subst hw') | (go_at_call 44; refine (l7Legs_is _ _).mono ?_; rintro e w' ⟨rfl, hw'⟩; have hw' := hw'.symm; subst hw'))
    go_cut [8] (fun c wx => c = .bool bu ∧ wx = W')
    case first =>
      by_cases u0 : unt = 0
      · subst u0
        go_wp2
        go_meet
        exact ⟨by rw [HU.out, decide_eq_true (.inl rfl)], rfl⟩
      · have e0 : (unt == 0) = false := by simpa using u0
        have eu : bu = false := by rw [HU.out]; exact decide_eq_false (fun h => by rcases h with h | h; exact u0 h; exact absurd h.1 (by decide))
        go_wp2
        go_meet
        exact ⟨by rw [eu], rfl⟩
    case rest =>
      obtain ⟨rfl, hwc2⟩ := hcut
      have hwc2 := hwc2.symm
      subst hwc2
      go_upto_region 18 with (first | (go_at_call 19; refine (l1In_is _ _ _ _).mono ?_; rintro e w' ⟨rfl, hw'⟩; have hw' := hw'.symm; subst hw') | (go_at_call 43; refine (l7Named_is _ _).mono ?_; rintro e w' ⟨rfl, hw'⟩; have hw' := hw'.symm; subst hw') | (go_at_call 44; refine (l7Legs_is _ _).mono ?_; rintro e w' ⟨rfl, hw'⟩; have hw' := hw'.symm; subst hw'))
      go_cut [9] (fun c wx => c = .bool bw ∧ wx = W')
      case first =>
        by_cases u0 : now = 0
        · subst u0
          go_wp2
          go_meet
          exact ⟨by rw [HW.out, decide_eq_true (.inl rfl)], rfl⟩
        · have e0 : (now == 0) = false := by simpa using u0
          have eu : bw = false := by rw [HW.out]; exact decide_eq_false (fun h => by rcases h with h | h; exact u0 h; exact absurd h.1 (by decide))
          go_wp2
          go_meet
          exact ⟨by rw [eu], rfl⟩
      case rest =>
        obtain ⟨rfl, hwc3⟩ := hcut
        have hwc3 := hwc3.symm
        subst hwc3
        clear eo en el y0 y3 y10 y11
        cases bo with
        | false =>
          go_wp2
          go_ret
          exact ⟨by rw [HR.out]; simp, hb2⟩
        | true =>
          cases bn with
          | false =>
            go_wp2
            go_ret
            exact ⟨by rw [HR.out]; simp, hb2⟩
          | true =>
            cases bl with
            | false =>
              go_wp2
              go_ret
              exact ⟨by rw [HR.out]; simp, hb2⟩
            | true =>
              cases bp with
              | false =>
                go_wp2
                go_ret
                exact ⟨by rw [HR.out]; simp, hb2⟩
              | true =>
                cases bu with
                | false =>
                  go_wp2
                  go_ret
                  exact ⟨by rw [HR.out]; simp, hb2⟩
                | true =>
                  cases bw with
                  | false =>
                    go_wp2
                    go_ret
                    exact ⟨by rw [HR.out]; simp, hb2⟩
                  | true =>
                    go_wp2
                    go_ret
                    exact ⟨by rw [HR.out]; rfl, hb2⟩

set_option maxHeartbeats 3200000 in
set_option maxRecDepth 100000 in
theorem specOp_6 (own : ByteArray) (name : Int) (alg : Option Addr) (lgn clg : Nat) (lg : Nat → Int) (pe len hei cl : Int) (all : Bool) (be unt now : Int) (w : World) (_ : own.size ≤ 1000000000000000) :
    Calls Tryz.prog 18 #[.agg #[.int .i64 6, .string own, .int .i64 name, .slice alg lgn clg, .int .i64 pe, .int .i64 len, .int .i64 hei, .int .i64 cl, .bool all, .int .i64 be, .int .i64 unt, .int .i64 now]] w fun e w' => e = .returned (.bool (decide (OpOk ⟨6, own, name, lgn, lg, pe, len, hei, cl, all, be, unt, now⟩))) ∧ Below w.heap.size w w' := by
  obtain ⟨R, hR⟩ : ∃ R, R = decide (OpOk ⟨6, own, name, lgn, lg, pe, len, hei, cl, all, be, unt, now⟩) := ⟨_, rfl⟩
  rw [← hR]
  obtain ⟨bo, hbo⟩ : ∃ b, b = decide (OwnerOk 6 own) := ⟨_, rfl⟩
  obtain ⟨bn, hbn⟩ : ∃ b, b = decide (NameOk 6 name) := ⟨_, rfl⟩
  obtain ⟨bl, hbl⟩ : ∃ b, b = decide (LegsOkFor 6 lgn) := ⟨_, rfl⟩
  obtain ⟨bp, hbp⟩ : ∃ b, b = decide (PartyOkFor 6 ⟨pe, len, hei, cl, all, be⟩) := ⟨_, rfl⟩
  obtain ⟨bu, hbu⟩ : ∃ b, b = decide (UntilOk 6 unt) := ⟨_, rfl⟩
  obtain ⟨bw, hbw⟩ : ∃ b, b = decide (NowOk 6 now) := ⟨_, rfl⟩
  have HR : Hid (R = (bo && bn && bl && bp && bu && bw)) := by
    show R = (bo && bn && bl && bp && bu && bw)
    rw [hR, hbo, hbn, hbl, hbp, hbu, hbw]
    exact opOk_split (k := 6) (by unfold In; omega)
  clear hR
  have eo : own.toList.isEmpty = bo := by rw [hbo, owner_empty own (k := 6) (by omega)]
  have en : decide (In name 1 30) = bn := by rw [hbn]; exact decide_eq_decide.2 (by unfold NameOk In; simp)
  have el : ((lgn : Int) == 0) = bl := by rw [hbl, int_zero]; exact decide_eq_decide.2 (by unfold LegsOkFor HasLegs; simp)
  have HO : Hid (bp = decide (PartyOkFor 6 ⟨pe, len, hei, cl, all, be⟩)) := hbp
  have HU : Hid (bu = decide (UntilOk 6 unt)) := hbu
  have HW : Hid (bw = decide (NowOk 6 now)) := hbw
  clear hbo hbn hbl hbp hbu hbw
  have d9 : decide (In 6 1 9) = true := by decide
  have dn : decide (In 6 4 8) = true := by decide
  have dl : decide (HasLegs 6) = false := by decide
  have hb0 : Below w.heap.size w (w.alloc (.cells #[.int .i64 6, .string own, .int .i64 name, .slice alg lgn clg, .int .i64 pe, .int .i64 len, .int .i64 hei, .int .i64 cl, .bool all, .int .i64 be, .int .i64 unt, .int .i64 now] 27)) := push (Below.refl _ _) _
  have b0 := heap_alloc_new w (.cells #[.int .i64 6, .string own, .int .i64 name, .slice alg lgn clg, .int .i64 pe, .int .i64 len, .int .i64 hei, .int .i64 cl, .bool all, .int .i64 be, .int .i64 unt, .int .i64 now] 27)
  go_enter Tryz.func18, Tryz.ntmps18
  go_upto_region 11 with (first | (go_at_call 19; refine (l1In_is _ _ _ _).mono ?_; rintro e w' ⟨rfl, hw'⟩; have hw' := hw'.symm; subst hw') | (go_at_call 43; refine (l7Named_is _ _).mono ?_; rintro e w' ⟨rfl, hw'⟩; have hw' := hw'.symm; subst hw') | (go_at_call 44; refine (l7Legs_is _ _).mono ?_; rintro e w' ⟨rfl, hw'⟩; have hw' := hw'.symm; subst hw'))
  generalize w.alloc (.cells #[.int .i64 6, .string own, .int .i64 name, .slice alg lgn clg, .int .i64 pe, .int .i64 len, .int .i64 hei, .int .i64 cl, .bool all, .int .i64 be, .int .i64 unt, .int .i64 now] 27) = W at hb0 b0 ⊢
  have y0 := blk_cell b0 0 _ rfl
  have y1 := blk_cell b0 1 _ rfl
  have y2 := blk_cell b0 2 _ rfl
  have y3 := blk_cell b0 3 _ rfl
  have y4 := blk_cell b0 4 _ rfl
  have y5 := blk_cell b0 5 _ rfl
  have y6 := blk_cell b0 6 _ rfl
  have y7 := blk_cell b0 7 _ rfl
  have y8 := blk_cell b0 8 _ rfl
  have y9 := blk_cell b0 9 _ rfl
  have y10 := blk_cell b0 10 _ rfl
  have y11 := blk_cell b0 11 _ rfl
  go_cut [7] (fun c wx => c = .bool (PZ pe len hei cl all be) ∧ wx = W)
  case first =>
    by_cases gpe : pe = 0
    · subst gpe
      by_cases glen : len = 0
      · subst glen
        by_cases ghei : hei = 0
        · subst ghei
          by_cases gcl : cl = 0
          · subst gcl
            cases all with
            | true =>
              have hz : PZ 0 0 0 0 true be = false := pz_no (fun h => by cases h.2.2.2.2.1)
              go_wp2
              go_meet
              exact ⟨by rw [hz], rfl⟩
            | false =>
              by_cases gbe : be = 0
              · subst gbe
                go_wp2
                go_meet
                exact ⟨rfl, rfl⟩
              · have ebe : (be == 0) = false := by simpa using gbe
                have hz : PZ 0 0 0 0 false be = false := pz_no (fun h => gbe h.2.2.2.2.2)
                go_wp2
                go_meet
                exact ⟨by rw [hz], rfl⟩
          · have ecl : (cl == 0) = false := by simpa using gcl
            have hz : PZ 0 0 0 cl all be = false := pz_no (fun h => gcl h.2.2.2.1)
            go_wp2
            go_meet
            exact ⟨by rw [hz], rfl⟩
        · have ehei : (hei == 0) = false := by simpa using ghei
          have hz : PZ 0 0 hei cl all be = false := pz_no (fun h => ghei h.2.2.1)
          go_wp2
          go_meet
          exact ⟨by rw [hz], rfl⟩
      · have elen : (len == 0) = false := by simpa using glen
        have hz : PZ 0 len hei cl all be = false := pz_no (fun h => glen h.2.1)
        go_wp2
        go_meet
        exact ⟨by rw [hz], rfl⟩
    · have epe : (pe == 0) = false := by simpa using gpe
      have hz : PZ pe len hei cl all be = false := pz_no (fun h => gpe h.1)
      go_wp2
      go_meet
      exact ⟨by rw [hz], rfl⟩
  case rest =>
    obtain ⟨rfl, hwc⟩ := hcut
    have hwc := hwc.symm
    subst hwc
    obtain rfl : PZ pe len hei cl all be = bp := by rw [HO.out]; exact party_none (k := 6) (by unfold HasLegs; omega)
    generalize PZ pe len hei cl all be = bp at *
    have hb2 := hb0
    clear hb0 b0
    go_upto_region 17 with (first | (go_at_call 19; refine (l1In_is _ _ _ _).mono ?_; rintro e w' ⟨rfl, hw'⟩; have hw' := hw'.symm; subst hw') | (go_at_call 43; refine (l7Named_is _ _).mono ?_; rintro e w' ⟨rfl, hw'⟩; have hw' := hw'.symm; subst hw') | (go_at_call 44; refine (l7Legs_is _ _).mono ?_; rintro e w' ⟨rfl, hw'⟩; have hw' := hw'.symm; subst hw'))
    go_cut [8] (fun c wx => c = .bool bu ∧ wx = W)
    case first =>
      by_cases u0 : unt = 0
      · subst u0
        go_wp2
        go_meet
        exact ⟨by rw [HU.out, decide_eq_true (.inl rfl)], rfl⟩
      · have e0 : (unt == 0) = false := by simpa using u0
        have eu : bu = false := by rw [HU.out]; exact decide_eq_false (fun h => by rcases h with h | h; exact u0 h; exact absurd h.1 (by decide))
        go_wp2
        go_meet
        exact ⟨by rw [eu], rfl⟩
    case rest =>
      obtain ⟨rfl, hwc2⟩ := hcut
      have hwc2 := hwc2.symm
      subst hwc2
      go_upto_region 18 with (first | (go_at_call 19; refine (l1In_is _ _ _ _).mono ?_; rintro e w' ⟨rfl, hw'⟩; have hw' := hw'.symm; subst hw') | (go_at_call 43; refine (l7Named_is _ _).mono ?_; rintro e w' ⟨rfl, hw'⟩; have hw' := hw'.symm; subst hw') | (go_at_call 44; refine (l7Legs_is _ _).mono ?_; rintro e w' ⟨rfl, hw'⟩; have hw' := hw'.symm; subst hw'))
      go_cut [9] (fun c wx => c = .bool bw ∧ wx = W)
      case first =>
        by_cases u0 : now = 0
        · subst u0
          go_wp2
          go_meet
          exact ⟨by rw [HW.out, decide_eq_true (.inl rfl)], rfl⟩
        · have e0 : (now == 0) = false := by simpa using u0
          have eu : decide (In now 0 10000) = bw := by rw [HW.out]; exact decide_eq_decide.2 ⟨fun h => .inr ⟨.inr rfl, h⟩, fun h => by rcases h with h | h; exact absurd h u0; exact h.2⟩
          go_wp2_with (first | (go_at_call 19; refine (l1In_is _ _ _ _).mono ?_; rintro e w' ⟨rfl, hw'⟩; have hw' := hw'.symm; subst hw') | (go_at_call 43; refine (l7Named_is _ _).mono ?_; rintro e w' ⟨rfl, hw'⟩; have hw' := hw'.symm; subst hw') | (go_at_call 44; refine (l7Legs_is _ _).mono ?_; rintro e w' ⟨rfl, hw'⟩; have hw' := hw'.symm; subst hw'))
          go_meet
          exact ⟨rfl, rfl⟩
      case rest =>
        obtain ⟨rfl, hwc3⟩ := hcut
        have hwc3 := hwc3.symm
        subst hwc3
        clear eo en el y0 y1 y2 y3 y4 y5 y6 y7 y8 y9 y10 y11
        cases bo with
        | false =>
          go_wp2
          go_ret
          exact ⟨by rw [HR.out]; simp, hb2⟩
        | true =>
          cases bn with
          | false =>
            go_wp2
            go_ret
            exact ⟨by rw [HR.out]; simp, hb2⟩
          | true =>
            cases bl with
            | false =>
              go_wp2
              go_ret
              exact ⟨by rw [HR.out]; simp, hb2⟩
            | true =>
              cases bp with
              | false =>
                go_wp2
                go_ret
                exact ⟨by rw [HR.out]; simp, hb2⟩
              | true =>
                cases bu with
                | false =>
                  go_wp2
                  go_ret
                  exact ⟨by rw [HR.out]; simp, hb2⟩
                | true =>
                  cases bw with
                  | false =>
                    go_wp2
                    go_ret
                    exact ⟨by rw [HR.out]; simp, hb2⟩
                  | true =>
                    go_wp2
                    go_ret
                    exact ⟨by rw [HR.out]; rfl, hb2⟩

end Go.Proofs.YtfallpinmhbemaaGreatDoor

namespace Go.Proofs.YtfallpinmhbemaaGreatDoor
open Go.RowKit

set_option maxHeartbeats 3200000 in
set_option maxRecDepth 100000 in
theorem specOp_7 (own : ByteArray) (name : Int) (alg : Option Addr) (lgn clg : Nat) (lg : Nat → Int) (pe len hei cl : Int) (all : Bool) (be unt now : Int) (w : World) (hown : own.size ≤ 1000000000000000) :
    Calls Tryz.prog 18 #[.agg #[.int .i64 7, .string own, .int .i64 name, .slice alg lgn clg, .int .i64 pe, .int .i64 len, .int .i64 hei, .int .i64 cl, .bool all, .int .i64 be, .int .i64 unt, .int .i64 now]] w fun e w' => e = .returned (.bool (decide (OpOk ⟨7, own, name, lgn, lg, pe, len, hei, cl, all, be, unt, now⟩))) ∧ Below w.heap.size w w' := by
  obtain ⟨R, hR⟩ : ∃ R, R = decide (OpOk ⟨7, own, name, lgn, lg, pe, len, hei, cl, all, be, unt, now⟩) := ⟨_, rfl⟩
  rw [← hR]
  obtain ⟨bo, hbo⟩ : ∃ b, b = decide (OwnerOk 7 own) := ⟨_, rfl⟩
  obtain ⟨bn, hbn⟩ : ∃ b, b = decide (NameOk 7 name) := ⟨_, rfl⟩
  obtain ⟨bl, hbl⟩ : ∃ b, b = decide (LegsOkFor 7 lgn) := ⟨_, rfl⟩
  obtain ⟨bp, hbp⟩ : ∃ b, b = decide (PartyOkFor 7 ⟨pe, len, hei, cl, all, be⟩) := ⟨_, rfl⟩
  obtain ⟨bu, hbu⟩ : ∃ b, b = decide (UntilOk 7 unt) := ⟨_, rfl⟩
  obtain ⟨bw, hbw⟩ : ∃ b, b = decide (NowOk 7 now) := ⟨_, rfl⟩
  have HR : Hid (R = (bo && bn && bl && bp && bu && bw)) := by
    show R = (bo && bn && bl && bp && bu && bw)
    rw [hR, hbo, hbn, hbl, hbp, hbu, hbw]
    exact opOk_split (k := 7) (by unfold In; omega)
  clear hR
  have eo : decide (IsName own) = bo := by rw [hbo]; exact decide_eq_decide.2 (by unfold OwnerOk; simp)
  have en : decide (In name 1 30) = bn := by rw [hbn]; exact decide_eq_decide.2 (by unfold NameOk In; simp)
  have el : ((lgn : Int) == 0) = bl := by rw [hbl, int_zero]; exact decide_eq_decide.2 (by unfold LegsOkFor HasLegs; simp)
  have HO : Hid (bp = decide (PartyOkFor 7 ⟨pe, len, hei, cl, all, be⟩)) := hbp
  have HU : Hid (bu = decide (UntilOk 7 unt)) := hbu
  have HW : Hid (bw = decide (NowOk 7 now)) := hbw
  clear hbo hbn hbl hbp hbu hbw
  have d9 : decide (In 7 1 9) = true := by decide
  have dn : decide (In 7 4 8) = true := by decide
  have dl : decide (HasLegs 7) = false := by decide
  have hb0 : Below w.heap.size w (w.alloc (.cells #[.int .i64 7, .string own, .int .i64 name, .slice alg lgn clg, .int .i64 pe, .int .i64 len, .int .i64 hei, .int .i64 cl, .bool all, .int .i64 be, .int .i64 unt, .int .i64 now] 27)) := push (Below.refl _ _) _
  have b0 := heap_alloc_new w (.cells #[.int .i64 7, .string own, .int .i64 name, .slice alg lgn clg, .int .i64 pe, .int .i64 len, .int .i64 hei, .int .i64 cl, .bool all, .int .i64 be, .int .i64 unt, .int .i64 now] 27)
  go_enter Tryz.func18, Tryz.ntmps18
  go_upto_region 11 with (first | (go_at_call 19; refine (l1In_is _ _ _ _).mono ?_; rintro e w' ⟨rfl, hw'⟩; have hw' := hw'.symm; subst hw') | (go_at_call 43; refine (l7Named_is _ _).mono ?_; rintro e w' ⟨rfl, hw'⟩; have hw' := hw'.symm; subst hw') | (go_at_call 44; refine (l7Legs_is _ _).mono ?_; rintro e w' ⟨rfl, hw'⟩; have hw' := hw'.symm; subst hw') | (go_at_call 42; refine (l1Name_is _ _ hown).mono ?_; rintro e w' ⟨rfl, hw'⟩; have hw' := hw'.symm; subst hw'))
  generalize w.alloc (.cells #[.int .i64 7, .string own, .int .i64 name, .slice alg lgn clg, .int .i64 pe, .int .i64 len, .int .i64 hei, .int .i64 cl, .bool all, .int .i64 be, .int .i64 unt, .int .i64 now] 27) = W at hb0 b0 ⊢
  have y0 := blk_cell b0 0 _ rfl
  have y1 := blk_cell b0 1 _ rfl
  have y2 := blk_cell b0 2 _ rfl
  have y3 := blk_cell b0 3 _ rfl
  have y4 := blk_cell b0 4 _ rfl
  have y5 := blk_cell b0 5 _ rfl
  have y6 := blk_cell b0 6 _ rfl
  have y7 := blk_cell b0 7 _ rfl
  have y8 := blk_cell b0 8 _ rfl
  have y9 := blk_cell b0 9 _ rfl
  have y10 := blk_cell b0 10 _ rfl
  have y11 := blk_cell b0 11 _ rfl
  go_cut [7] (fun c wx => c = .bool (PZ pe len hei cl all be) ∧ wx = W)
  case first =>
    by_cases gpe : pe = 0
    · subst gpe
      by_cases glen : len = 0
      · subst glen
        by_cases ghei : hei = 0
        · subst ghei
          by_cases gcl : cl = 0
          · subst gcl
            cases all with
            | true =>
              have hz : PZ 0 0 0 0 true be = false := pz_no (fun h => by cases h.2.2.2.2.1)
              go_wp2
              go_meet
              exact ⟨by rw [hz], rfl⟩
            | false =>
              by_cases gbe : be = 0
              · subst gbe
                go_wp2
                go_meet
                exact ⟨rfl, rfl⟩
              · have ebe : (be == 0) = false := by simpa using gbe
                have hz : PZ 0 0 0 0 false be = false := pz_no (fun h => gbe h.2.2.2.2.2)
                go_wp2
                go_meet
                exact ⟨by rw [hz], rfl⟩
          · have ecl : (cl == 0) = false := by simpa using gcl
            have hz : PZ 0 0 0 cl all be = false := pz_no (fun h => gcl h.2.2.2.1)
            go_wp2
            go_meet
            exact ⟨by rw [hz], rfl⟩
        · have ehei : (hei == 0) = false := by simpa using ghei
          have hz : PZ 0 0 hei cl all be = false := pz_no (fun h => ghei h.2.2.1)
          go_wp2
          go_meet
          exact ⟨by rw [hz], rfl⟩
      · have elen : (len == 0) = false := by simpa using glen
        have hz : PZ 0 len hei cl all be = false := pz_no (fun h => glen h.2.1)
        go_wp2
        go_meet
        exact ⟨by rw [hz], rfl⟩
    · have epe : (pe == 0) = false := by simpa using gpe
      have hz : PZ pe len hei cl all be = false := pz_no (fun h => gpe h.1)
      go_wp2
      go_meet
      exact ⟨by rw [hz], rfl⟩
  case rest =>
    obtain ⟨rfl, hwc⟩ := hcut
    have hwc := hwc.symm
    subst hwc
    obtain rfl : PZ pe len hei cl all be = bp := by rw [HO.out]; exact party_none (k := 7) (by unfold HasLegs; omega)
    generalize PZ pe len hei cl all be = bp at *
    have hb2 := hb0
    clear hb0 b0
    go_upto_region 17 with (first | (go_at_call 19; refine (l1In_is _ _ _ _).mono ?_; rintro e w' ⟨rfl, hw'⟩; have hw' := hw'.symm; subst hw') | (go_at_call 43; refine (l7Named_is _ _).mono ?_; rintro e w' ⟨rfl, hw'⟩; have hw' := hw'.symm; subst hw') | (go_at_call 44; refine (l7Legs_is _ _).mono ?_; rintro e w' ⟨rfl, hw'⟩; have hw' := hw'.symm; subst hw') | (go_at_call 42; refine (l1Name_is _ _ hown).mono ?_; rintro e w' ⟨rfl, hw'⟩; have hw' := hw'.symm; subst hw'))
    go_cut [8] (fun c wx => c = .bool bu ∧ wx = W)
    case first =>
      by_cases u0 : unt = 0
      · subst u0
        go_wp2
        go_meet
        exact ⟨by rw [HU.out, decide_eq_true (.inl rfl)], rfl⟩
      · have e0 : (unt == 0) = false := by simpa using u0
        have eu : bu = false := by rw [HU.out]; exact decide_eq_false (fun h => by rcases h with h | h; exact u0 h; exact absurd h.1 (by decide))
        go_wp2
        go_meet
        exact ⟨by rw [eu], rfl⟩
    case rest =>
      obtain ⟨rfl, hwc2⟩ := hcut
      have hwc2 := hwc2.symm
      subst hwc2
      go_upto_region 18 with (first | (go_at_call 19; refine (l1In_is _ _ _ _).mono ?_; rintro e w' ⟨rfl, hw'⟩; have hw' := hw'.symm; subst hw') | (go_at_call 43; refine (l7Named_is _ _).mono ?_; rintro e w' ⟨rfl, hw'⟩; have hw' := hw'.symm; subst hw') | (go_at_call 44; refine (l7Legs_is _ _).mono ?_; rintro e w' ⟨rfl, hw'⟩; have hw' := hw'.symm; subst hw') | (go_at_call 42; refine (l1Name_is _ _ hown).mono ?_; rintro e w' ⟨rfl, hw'⟩; have hw' := hw'.symm; subst hw'))
      go_cut [9] (fun c wx => c = .bool bw ∧ wx = W)
      case first =>
        by_cases u0 : now = 0
        · subst u0
          go_wp2
          go_meet
          exact ⟨by rw [HW.out, decide_eq_true (.inl rfl)], rfl⟩
        · have e0 : (now == 0) = false := by simpa using u0
          have eu : bw = false := by rw [HW.out]; exact decide_eq_false (fun h => by rcases h with h | h; exact u0 h; exact absurd h.1 (by decide))
          go_wp2
          go_meet
          exact ⟨by rw [eu], rfl⟩
      case rest =>
        obtain ⟨rfl, hwc3⟩ := hcut
        have hwc3 := hwc3.symm
        subst hwc3
        clear eo en el y0 y1 y2 y3 y4 y5 y6 y7 y8 y9 y10 y11
        cases bo with
        | false =>
          go_wp2
          go_ret
          exact ⟨by rw [HR.out]; simp, hb2⟩
        | true =>
          cases bn with
          | false =>
            go_wp2
            go_ret
            exact ⟨by rw [HR.out]; simp, hb2⟩
          | true =>
            cases bl with
            | false =>
              go_wp2
              go_ret
              exact ⟨by rw [HR.out]; simp, hb2⟩
            | true =>
              cases bp with
              | false =>
                go_wp2
                go_ret
                exact ⟨by rw [HR.out]; simp, hb2⟩
              | true =>
                cases bu with
                | false =>
                  go_wp2
                  go_ret
                  exact ⟨by rw [HR.out]; simp, hb2⟩
                | true =>
                  cases bw with
                  | false =>
                    go_wp2
                    go_ret
                    exact ⟨by rw [HR.out]; simp, hb2⟩
                  | true =>
                    go_wp2
                    go_ret
                    exact ⟨by rw [HR.out]; rfl, hb2⟩

set_option maxHeartbeats 3200000 in
set_option maxRecDepth 100000 in
theorem specOp_8 (own : ByteArray) (name : Int) (alg : Option Addr) (lgn clg : Nat) (lg : Nat → Int) (pe len hei cl : Int) (all : Bool) (be unt now : Int) (w : World) (_ : own.size ≤ 1000000000000000) :
    Calls Tryz.prog 18 #[.agg #[.int .i64 8, .string own, .int .i64 name, .slice alg lgn clg, .int .i64 pe, .int .i64 len, .int .i64 hei, .int .i64 cl, .bool all, .int .i64 be, .int .i64 unt, .int .i64 now]] w fun e w' => e = .returned (.bool (decide (OpOk ⟨8, own, name, lgn, lg, pe, len, hei, cl, all, be, unt, now⟩))) ∧ Below w.heap.size w w' := by
  obtain ⟨R, hR⟩ : ∃ R, R = decide (OpOk ⟨8, own, name, lgn, lg, pe, len, hei, cl, all, be, unt, now⟩) := ⟨_, rfl⟩
  rw [← hR]
  obtain ⟨bo, hbo⟩ : ∃ b, b = decide (OwnerOk 8 own) := ⟨_, rfl⟩
  obtain ⟨bn, hbn⟩ : ∃ b, b = decide (NameOk 8 name) := ⟨_, rfl⟩
  obtain ⟨bl, hbl⟩ : ∃ b, b = decide (LegsOkFor 8 lgn) := ⟨_, rfl⟩
  obtain ⟨bp, hbp⟩ : ∃ b, b = decide (PartyOkFor 8 ⟨pe, len, hei, cl, all, be⟩) := ⟨_, rfl⟩
  obtain ⟨bu, hbu⟩ : ∃ b, b = decide (UntilOk 8 unt) := ⟨_, rfl⟩
  obtain ⟨bw, hbw⟩ : ∃ b, b = decide (NowOk 8 now) := ⟨_, rfl⟩
  have HR : Hid (R = (bo && bn && bl && bp && bu && bw)) := by
    show R = (bo && bn && bl && bp && bu && bw)
    rw [hR, hbo, hbn, hbl, hbp, hbu, hbw]
    exact opOk_split (k := 8) (by unfold In; omega)
  clear hR
  have eo : own.toList.isEmpty = bo := by rw [hbo, owner_empty own (k := 8) (by omega)]
  have en : decide (In name 1 30) = bn := by rw [hbn]; exact decide_eq_decide.2 (by unfold NameOk In; simp)
  have el : ((lgn : Int) == 0) = bl := by rw [hbl, int_zero]; exact decide_eq_decide.2 (by unfold LegsOkFor HasLegs; simp)
  have HO : Hid (bp = decide (PartyOkFor 8 ⟨pe, len, hei, cl, all, be⟩)) := hbp
  have HU : Hid (bu = decide (UntilOk 8 unt)) := hbu
  have HW : Hid (bw = decide (NowOk 8 now)) := hbw
  clear hbo hbn hbl hbp hbu hbw
  have d9 : decide (In 8 1 9) = true := by decide
  have dn : decide (In 8 4 8) = true := by decide
  have dl : decide (HasLegs 8) = false := by decide
  have hb0 : Below w.heap.size w (w.alloc (.cells #[.int .i64 8, .string own, .int .i64 name, .slice alg lgn clg, .int .i64 pe, .int .i64 len, .int .i64 hei, .int .i64 cl, .bool all, .int .i64 be, .int .i64 unt, .int .i64 now] 27)) := push (Below.refl _ _) _
  have b0 := heap_alloc_new w (.cells #[.int .i64 8, .string own, .int .i64 name, .slice alg lgn clg, .int .i64 pe, .int .i64 len, .int .i64 hei, .int .i64 cl, .bool all, .int .i64 be, .int .i64 unt, .int .i64 now] 27)
  go_enter Tryz.func18, Tryz.ntmps18
  go_upto_region 11 with (first | (go_at_call 19; refine (l1In_is _ _ _ _).mono ?_; rintro e w' ⟨rfl, hw'⟩; have hw' := hw'.symm; subst hw') | (go_at_call 43; refine (l7Named_is _ _).mono ?_; rintro e w' ⟨rfl, hw'⟩; have hw' := hw'.symm; subst hw') | (go_at_call 44; refine (l7Legs_is _ _).mono ?_; rintro e w' ⟨rfl, hw'⟩; have hw' := hw'.symm; subst hw'))
  generalize w.alloc (.cells #[.int .i64 8, .string own, .int .i64 name, .slice alg lgn clg, .int .i64 pe, .int .i64 len, .int .i64 hei, .int .i64 cl, .bool all, .int .i64 be, .int .i64 unt, .int .i64 now] 27) = W at hb0 b0 ⊢
  have y0 := blk_cell b0 0 _ rfl
  have y1 := blk_cell b0 1 _ rfl
  have y2 := blk_cell b0 2 _ rfl
  have y3 := blk_cell b0 3 _ rfl
  have y4 := blk_cell b0 4 _ rfl
  have y5 := blk_cell b0 5 _ rfl
  have y6 := blk_cell b0 6 _ rfl
  have y7 := blk_cell b0 7 _ rfl
  have y8 := blk_cell b0 8 _ rfl
  have y9 := blk_cell b0 9 _ rfl
  have y10 := blk_cell b0 10 _ rfl
  have y11 := blk_cell b0 11 _ rfl
  go_cut [7] (fun c wx => c = .bool (PZ pe len hei cl all be) ∧ wx = W)
  case first =>
    by_cases gpe : pe = 0
    · subst gpe
      by_cases glen : len = 0
      · subst glen
        by_cases ghei : hei = 0
        · subst ghei
          by_cases gcl : cl = 0
          · subst gcl
            cases all with
            | true =>
              have hz : PZ 0 0 0 0 true be = false := pz_no (fun h => by cases h.2.2.2.2.1)
              go_wp2
              go_meet
              exact ⟨by rw [hz], rfl⟩
            | false =>
              by_cases gbe : be = 0
              · subst gbe
                go_wp2
                go_meet
                exact ⟨rfl, rfl⟩
              · have ebe : (be == 0) = false := by simpa using gbe
                have hz : PZ 0 0 0 0 false be = false := pz_no (fun h => gbe h.2.2.2.2.2)
                go_wp2
                go_meet
                exact ⟨by rw [hz], rfl⟩
          · have ecl : (cl == 0) = false := by simpa using gcl
            have hz : PZ 0 0 0 cl all be = false := pz_no (fun h => gcl h.2.2.2.1)
            go_wp2
            go_meet
            exact ⟨by rw [hz], rfl⟩
        · have ehei : (hei == 0) = false := by simpa using ghei
          have hz : PZ 0 0 hei cl all be = false := pz_no (fun h => ghei h.2.2.1)
          go_wp2
          go_meet
          exact ⟨by rw [hz], rfl⟩
      · have elen : (len == 0) = false := by simpa using glen
        have hz : PZ 0 len hei cl all be = false := pz_no (fun h => glen h.2.1)
        go_wp2
        go_meet
        exact ⟨by rw [hz], rfl⟩
    · have epe : (pe == 0) = false := by simpa using gpe
      have hz : PZ pe len hei cl all be = false := pz_no (fun h => gpe h.1)
      go_wp2
      go_meet
      exact ⟨by rw [hz], rfl⟩
  case rest =>
    obtain ⟨rfl, hwc⟩ := hcut
    have hwc := hwc.symm
    subst hwc
    obtain rfl : PZ pe len hei cl all be = bp := by rw [HO.out]; exact party_none (k := 8) (by unfold HasLegs; omega)
    generalize PZ pe len hei cl all be = bp at *
    have hb2 := hb0
    clear hb0 b0
    go_upto_region 17 with (first | (go_at_call 19; refine (l1In_is _ _ _ _).mono ?_; rintro e w' ⟨rfl, hw'⟩; have hw' := hw'.symm; subst hw') | (go_at_call 43; refine (l7Named_is _ _).mono ?_; rintro e w' ⟨rfl, hw'⟩; have hw' := hw'.symm; subst hw') | (go_at_call 44; refine (l7Legs_is _ _).mono ?_; rintro e w' ⟨rfl, hw'⟩; have hw' := hw'.symm; subst hw'))
    go_cut [8] (fun c wx => c = .bool bu ∧ wx = W)
    case first =>
      by_cases u0 : unt = 0
      · subst u0
        go_wp2
        go_meet
        exact ⟨by rw [HU.out, decide_eq_true (.inl rfl)], rfl⟩
      · have e0 : (unt == 0) = false := by simpa using u0
        have eu : bu = false := by rw [HU.out]; exact decide_eq_false (fun h => by rcases h with h | h; exact u0 h; exact absurd h.1 (by decide))
        go_wp2
        go_meet
        exact ⟨by rw [eu], rfl⟩
    case rest =>
      obtain ⟨rfl, hwc2⟩ := hcut
      have hwc2 := hwc2.symm
      subst hwc2
      go_upto_region 18 with (first | (go_at_call 19; refine (l1In_is _ _ _ _).mono ?_; rintro e w' ⟨rfl, hw'⟩; have hw' := hw'.symm; subst hw') | (go_at_call 43; refine (l7Named_is _ _).mono ?_; rintro e w' ⟨rfl, hw'⟩; have hw' := hw'.symm; subst hw') | (go_at_call 44; refine (l7Legs_is _ _).mono ?_; rintro e w' ⟨rfl, hw'⟩; have hw' := hw'.symm; subst hw'))
      go_cut [9] (fun c wx => c = .bool bw ∧ wx = W)
      case first =>
        by_cases u0 : now = 0
        · subst u0
          go_wp2
          go_meet
          exact ⟨by rw [HW.out, decide_eq_true (.inl rfl)], rfl⟩
        · have e0 : (now == 0) = false := by simpa using u0
          have eu : decide (In now 0 10000) = bw := by rw [HW.out]; exact decide_eq_decide.2 ⟨fun h => .inr ⟨.inl rfl, h⟩, fun h => by rcases h with h | h; exact absurd h u0; exact h.2⟩
          go_wp2_with (first | (go_at_call 19; refine (l1In_is _ _ _ _).mono ?_; rintro e w' ⟨rfl, hw'⟩; have hw' := hw'.symm; subst hw') | (go_at_call 43; refine (l7Named_is _ _).mono ?_; rintro e w' ⟨rfl, hw'⟩; have hw' := hw'.symm; subst hw') | (go_at_call 44; refine (l7Legs_is _ _).mono ?_; rintro e w' ⟨rfl, hw'⟩; have hw' := hw'.symm; subst hw'))
          go_meet
          exact ⟨rfl, rfl⟩
      case rest =>
        obtain ⟨rfl, hwc3⟩ := hcut
        have hwc3 := hwc3.symm
        subst hwc3
        clear eo en el y0 y1 y2 y3 y4 y5 y6 y7 y8 y9 y10 y11
        cases bo with
        | false =>
          go_wp2
          go_ret
          exact ⟨by rw [HR.out]; simp, hb2⟩
        | true =>
          cases bn with
          | false =>
            go_wp2
            go_ret
            exact ⟨by rw [HR.out]; simp, hb2⟩
          | true =>
            cases bl with
            | false =>
              go_wp2
              go_ret
              exact ⟨by rw [HR.out]; simp, hb2⟩
            | true =>
              cases bp with
              | false =>
                go_wp2
                go_ret
                exact ⟨by rw [HR.out]; simp, hb2⟩
              | true =>
                cases bu with
                | false =>
                  go_wp2
                  go_ret
                  exact ⟨by rw [HR.out]; simp, hb2⟩
                | true =>
                  cases bw with
                  | false =>
                    go_wp2
                    go_ret
                    exact ⟨by rw [HR.out]; simp, hb2⟩
                  | true =>
                    go_wp2
                    go_ret
                    exact ⟨by rw [HR.out]; rfl, hb2⟩

set_option maxHeartbeats 3200000 in
set_option maxRecDepth 100000 in
theorem specOp_9 (own : ByteArray) (name : Int) (alg : Option Addr) (lgn clg : Nat) (lg : Nat → Int) (pe len hei cl : Int) (all : Bool) (be unt now : Int) (w : World) (_ : own.size ≤ 1000000000000000) :
    Calls Tryz.prog 18 #[.agg #[.int .i64 9, .string own, .int .i64 name, .slice alg lgn clg, .int .i64 pe, .int .i64 len, .int .i64 hei, .int .i64 cl, .bool all, .int .i64 be, .int .i64 unt, .int .i64 now]] w fun e w' => e = .returned (.bool (decide (OpOk ⟨9, own, name, lgn, lg, pe, len, hei, cl, all, be, unt, now⟩))) ∧ Below w.heap.size w w' := by
  obtain ⟨R, hR⟩ : ∃ R, R = decide (OpOk ⟨9, own, name, lgn, lg, pe, len, hei, cl, all, be, unt, now⟩) := ⟨_, rfl⟩
  rw [← hR]
  obtain ⟨bo, hbo⟩ : ∃ b, b = decide (OwnerOk 9 own) := ⟨_, rfl⟩
  obtain ⟨bn, hbn⟩ : ∃ b, b = decide (NameOk 9 name) := ⟨_, rfl⟩
  obtain ⟨bl, hbl⟩ : ∃ b, b = decide (LegsOkFor 9 lgn) := ⟨_, rfl⟩
  obtain ⟨bp, hbp⟩ : ∃ b, b = decide (PartyOkFor 9 ⟨pe, len, hei, cl, all, be⟩) := ⟨_, rfl⟩
  obtain ⟨bu, hbu⟩ : ∃ b, b = decide (UntilOk 9 unt) := ⟨_, rfl⟩
  obtain ⟨bw, hbw⟩ : ∃ b, b = decide (NowOk 9 now) := ⟨_, rfl⟩
  have HR : Hid (R = (bo && bn && bl && bp && bu && bw)) := by
    show R = (bo && bn && bl && bp && bu && bw)
    rw [hR, hbo, hbn, hbl, hbp, hbu, hbw]
    exact opOk_split (k := 9) (by unfold In; omega)
  clear hR
  have eo : own.toList.isEmpty = bo := by rw [hbo, owner_empty own (k := 9) (by omega)]
  have en : (name == 0) = bn := by rw [hbn, name_zero name (k := 9) (by unfold In; omega)]
  have el : ((lgn : Int) == 1) = bl := by rw [hbl, int_one]; exact decide_eq_decide.2 (by unfold LegsOkFor HasLegs; simp)
  have HO : Hid (bp = decide (PartyOkFor 9 ⟨pe, len, hei, cl, all, be⟩)) := hbp
  have HU : Hid (bu = decide (UntilOk 9 unt)) := hbu
  have HW : Hid (bw = decide (NowOk 9 now)) := hbw
  clear hbo hbn hbl hbp hbu hbw
  have d9 : decide (In 9 1 9) = true := by decide
  have dn : decide (In 9 4 8) = false := by decide
  have dl : decide (HasLegs 9) = false := by decide
  have hb0 : Below w.heap.size w (w.alloc (.cells #[.int .i64 9, .string own, .int .i64 name, .slice alg lgn clg, .int .i64 pe, .int .i64 len, .int .i64 hei, .int .i64 cl, .bool all, .int .i64 be, .int .i64 unt, .int .i64 now] 27)) := push (Below.refl _ _) _
  have b0 := heap_alloc_new w (.cells #[.int .i64 9, .string own, .int .i64 name, .slice alg lgn clg, .int .i64 pe, .int .i64 len, .int .i64 hei, .int .i64 cl, .bool all, .int .i64 be, .int .i64 unt, .int .i64 now] 27)
  go_enter Tryz.func18, Tryz.ntmps18
  go_upto_region 11 with (first | (go_at_call 19; refine (l1In_is _ _ _ _).mono ?_; rintro e w' ⟨rfl, hw'⟩; have hw' := hw'.symm; subst hw') | (go_at_call 43; refine (l7Named_is _ _).mono ?_; rintro e w' ⟨rfl, hw'⟩; have hw' := hw'.symm; subst hw') | (go_at_call 44; refine (l7Legs_is _ _).mono ?_; rintro e w' ⟨rfl, hw'⟩; have hw' := hw'.symm; subst hw'))
  generalize w.alloc (.cells #[.int .i64 9, .string own, .int .i64 name, .slice alg lgn clg, .int .i64 pe, .int .i64 len, .int .i64 hei, .int .i64 cl, .bool all, .int .i64 be, .int .i64 unt, .int .i64 now] 27) = W at hb0 b0 ⊢
  have y0 := blk_cell b0 0 _ rfl
  have y1 := blk_cell b0 1 _ rfl
  have y2 := blk_cell b0 2 _ rfl
  have y3 := blk_cell b0 3 _ rfl
  have y4 := blk_cell b0 4 _ rfl
  have y5 := blk_cell b0 5 _ rfl
  have y6 := blk_cell b0 6 _ rfl
  have y7 := blk_cell b0 7 _ rfl
  have y8 := blk_cell b0 8 _ rfl
  have y9 := blk_cell b0 9 _ rfl
  have y10 := blk_cell b0 10 _ rfl
  have y11 := blk_cell b0 11 _ rfl
  go_cut [7] (fun c wx => c = .bool (PZ pe len hei cl all be) ∧ wx = W)
  case first =>
    by_cases gpe : pe = 0
    · subst gpe
      by_cases glen : len = 0
      · subst glen
        by_cases ghei : hei = 0
        · subst ghei
          by_cases gcl : cl = 0
          · subst gcl
            cases all with
            | true =>
              have hz : PZ 0 0 0 0 true be = false := pz_no (fun h => by cases h.2.2.2.2.1)
              go_wp2
              go_meet
              exact ⟨by rw [hz], rfl⟩
            | false =>
              by_cases gbe : be = 0
              · subst gbe
                go_wp2
                go_meet
                exact ⟨rfl, rfl⟩
              · have ebe : (be == 0) = false := by simpa using gbe
                have hz : PZ 0 0 0 0 false be = false := pz_no (fun h => gbe h.2.2.2.2.2)
                go_wp2
                go_meet
                exact ⟨by rw [hz], rfl⟩
          · have ecl : (cl == 0) = false := by simpa using gcl
            have hz : PZ 0 0 0 cl all be = false := pz_no (fun h => gcl h.2.2.2.1)
            go_wp2
            go_meet
            exact ⟨by rw [hz], rfl⟩
        · have ehei : (hei == 0) = false := by simpa using ghei
          have hz : PZ 0 0 hei cl all be = false := pz_no (fun h => ghei h.2.2.1)
          go_wp2
          go_meet
          exact ⟨by rw [hz], rfl⟩
      · have elen : (len == 0) = false := by simpa using glen
        have hz : PZ 0 len hei cl all be = false := pz_no (fun h => glen h.2.1)
        go_wp2
        go_meet
        exact ⟨by rw [hz], rfl⟩
    · have epe : (pe == 0) = false := by simpa using gpe
      have hz : PZ pe len hei cl all be = false := pz_no (fun h => gpe h.1)
      go_wp2
      go_meet
      exact ⟨by rw [hz], rfl⟩
  case rest =>
    obtain ⟨rfl, hwc⟩ := hcut
    have hwc := hwc.symm
    subst hwc
    obtain rfl : PZ pe len hei cl all be = bp := by rw [HO.out]; exact party_none (k := 9) (by unfold HasLegs; omega)
    generalize PZ pe len hei cl all be = bp at *
    have hb2 := hb0
    clear hb0 b0
    go_upto_region 17 with (first | (go_at_call 19; refine (l1In_is _ _ _ _).mono ?_; rintro e w' ⟨rfl, hw'⟩; have hw' := hw'.symm; subst hw') | (go_at_call 43; refine (l7Named_is _ _).mono ?_; rintro e w' ⟨rfl, hw'⟩; have hw' := hw'.symm; subst hw') | (go_at_call 44; refine (l7Legs_is _ _).mono ?_; rintro e w' ⟨rfl, hw'⟩; have hw' := hw'.symm; subst hw'))
    go_cut [8] (fun c wx => c = .bool bu ∧ wx = W)
    case first =>
      by_cases u0 : unt = 0
      · subst u0
        go_wp2
        go_meet
        exact ⟨by rw [HU.out, decide_eq_true (.inl rfl)], rfl⟩
      · have e0 : (unt == 0) = false := by simpa using u0
        have eu : bu = false := by rw [HU.out]; exact decide_eq_false (fun h => by rcases h with h | h; exact u0 h; exact absurd h.1 (by decide))
        go_wp2
        go_meet
        exact ⟨by rw [eu], rfl⟩
    case rest =>
      obtain ⟨rfl, hwc2⟩ := hcut
      have hwc2 := hwc2.symm
      subst hwc2
      go_upto_region 18 with (first | (go_at_call 19; refine (l1In_is _ _ _ _).mono ?_; rintro e w' ⟨rfl, hw'⟩; have hw' := hw'.symm; subst hw') | (go_at_call 43; refine (l7Named_is _ _).mono ?_; rintro e w' ⟨rfl, hw'⟩; have hw' := hw'.symm; subst hw') | (go_at_call 44; refine (l7Legs_is _ _).mono ?_; rintro e w' ⟨rfl, hw'⟩; have hw' := hw'.symm; subst hw'))
      go_cut [9] (fun c wx => c = .bool bw ∧ wx = W)
      case first =>
        by_cases u0 : now = 0
        · subst u0
          go_wp2
          go_meet
          exact ⟨by rw [HW.out, decide_eq_true (.inl rfl)], rfl⟩
        · have e0 : (now == 0) = false := by simpa using u0
          have eu : bw = false := by rw [HW.out]; exact decide_eq_false (fun h => by rcases h with h | h; exact u0 h; exact absurd h.1 (by decide))
          go_wp2
          go_meet
          exact ⟨by rw [eu], rfl⟩
      case rest =>
        obtain ⟨rfl, hwc3⟩ := hcut
        have hwc3 := hwc3.symm
        subst hwc3
        clear eo en el y0 y1 y2 y3 y4 y5 y6 y7 y8 y9 y10 y11
        cases bo with
        | false =>
          go_wp2
          go_ret
          exact ⟨by rw [HR.out]; simp, hb2⟩
        | true =>
          cases bn with
          | false =>
            go_wp2
            go_ret
            exact ⟨by rw [HR.out]; simp, hb2⟩
          | true =>
            cases bl with
            | false =>
              go_wp2
              go_ret
              exact ⟨by rw [HR.out]; simp, hb2⟩
            | true =>
              cases bp with
              | false =>
                go_wp2
                go_ret
                exact ⟨by rw [HR.out]; simp, hb2⟩
              | true =>
                cases bu with
                | false =>
                  go_wp2
                  go_ret
                  exact ⟨by rw [HR.out]; simp, hb2⟩
                | true =>
                  cases bw with
                  | false =>
                    go_wp2
                    go_ret
                    exact ⟨by rw [HR.out]; simp, hb2⟩
                  | true =>
                    go_wp2
                    go_ret
                    exact ⟨by rw [HR.out]; rfl, hb2⟩

end Go.Proofs.YtfallpinmhbemaaGreatDoor
