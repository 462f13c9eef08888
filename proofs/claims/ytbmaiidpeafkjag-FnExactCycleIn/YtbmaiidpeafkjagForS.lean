/-
  OWN TEXT: the contract of spec.l2For: those that a task waits for, as a rising list.
-/
import Derived.Test.YtbmaiidpeafkjagWaitA
import Derived.Test.YtbmaiidpeafkjagPutI
namespace Go.Proofs.Ytbmaiidpeafkjag
open Go.RowKit

/-- ks is the rising list of those that x waits for. -/
def ForIs (N : Nat) (H Q : Nat → Line) (x : Int) (ks : List Int) : Prop :=
  (noWait N Q x ∧ ks = []) ∨ ∃ i j, waitsIn N Q x i ∧ firstAt (Q i) x j ∧ Strict ks ∧ ∀ y, y ∈ ks ↔ y ∈ seqTo (catLine (H i) (Q i) j) ((Q i).S j) ((H i).n + j)
theorem forIs_one {N : Nat} {H Q : Nat → Line} {x : Int} {ks ks' : List Int} (h : ForIs N H Q x ks) (h' : ForIs N H Q x ks') : ks' = ks := by
  rcases h with ⟨hn, rfl⟩ | ⟨i, j, hi, hj, hs, hm⟩
  · rcases h' with ⟨_, rfl⟩ | ⟨i, j, hi, _⟩
    · rfl
    · exact absurd hi (noWait_not hn)
  · rcases h' with ⟨hn, _⟩ | ⟨i', j', hi', hj', hs', hm'⟩
    · exact absurd hi (noWait_not hn)
    · obtain rfl := waitsIn_one hi hi'
      obtain rfl := firstAt_one hj hj'
      exact strict_one hs' hs (fun y => (hm' y).trans (hm y).symm)

def cumTo (n j r : Nat) : Nat := if r = 0 then 0 else if r = 1 then n else n + j

set_option maxHeartbeats 6400000 in
set_option maxRecDepth 100000 in
theorem l2For_any (ao : Option Addr) (N c : Nat) (K : Nat → Int) (H Q : Nat → Line) (x : Int) (w : World) (hN : N ≤ 1048576) (hs : ShortTo N H Q 1048576) (hg : GoodI N K H Q) (hx : LocksAt w ao N K H Q) :
    Calls Try.prog 45 #[.slice ao N c, .int .i64 x] w fun e w' => (∃ v ks, e = .returned v ∧ WaitsIs w' w.heap.size v ks ∧ Hid (ForIs N H Q x ks)) ∧ Below w.heap.size w w' := by
  have HS : Hid (ShortTo N H Q 1048576) := hs
  have HG : Hid (GoodI N K H Q) := hg
  clear hs hg
  go_enter Try.func45, Try.ntmps45
  go_wp2_with fail
  refine (l2Waits_any ao N c K H Q x _ hN HS.out hx).mono ?_
  rintro e w1 ⟨hl, hb1⟩
  rcases hl with ⟨i, hi, rfl⟩ | ⟨hno, rfl⟩
  · have HI : Hid (waitsIn N Q x i) := hi
    have hiN : i < N := hi.1
    clear hi
    have s1 := (HS.out i hiN).1
    have s2 := (HS.out i hiN).2
    have hi1 : (i : Int) < (N : Int) := by omega
    have hi0 : (0 : Int) ≤ (i : Int) := by omega
    obtain ⟨lb, loff, ha, hc, qa, qc, rfl, h1, h2, h3, l1, l2, k1, k2⟩ := hx i hiN
    have hlb0 := World.block_lt_of_cell? w _ h1
    have a1 := (hb1.cell (p := ⟨lb, loff + i * 3, none⟩) hlb0).trans h1
    have a2 := (hb1.cell (p := ⟨lb, loff + i * 3 + 1, none⟩) hlb0).trans h2
    have a3 := (hb1.cell (p := ⟨lb, loff + i * 3 + 2, none⟩) hlb0).trans h3
    go_wp2_with fail
    refine (l2In_yes qa _ qc (Q i) x _ rfl s2 (l2.below hb1) HI.out.2.1).mono ?_
    rintro e w2 ⟨j, rfl, hj, hb2⟩
    have HJ : Hid (firstAt (Q i) x j) := hj
    have hjn : j < (Q i).n := hj.1
    clear hj a1 a2 a3
    have hbel2 := after hb1 hb2
    have a1 := (hbel2.cell (p := ⟨lb, loff + i * 3, none⟩) hlb0).trans h1
    have a2 := (hbel2.cell (p := ⟨lb, loff + i * 3 + 1, none⟩) hlb0).trans h2
    have a3 := (hbel2.cell (p := ⟨lb, loff + i * 3 + 2, none⟩) hlb0).trans h3
    obtain ⟨qb, qoff, rfl, g1, g2⟩ := l2 j hjn
    have hqb0 := World.block_lt_of_cell? w _ g1
    have e1 := (hbel2.cell (p := ⟨qb, qoff + j * 2, none⟩) hqb0).trans g1
    have e2 := (hbel2.cell (p := ⟨qb, qoff + j * 2 + 1, none⟩) hqb0).trans g2
    clear g1 g2 h1 h2 h3 hb1 hb2
    have hj1 : (j : Int) < ((Q i).n : Int) := by omega
    have hj0 : (0 : Int) ≤ (j : Int) := by omega
    have hj2 : (j : Int) ≤ (qc : Int) := by have := k2.1; omega
    have hj3 : (qc : Int) ≤ 1000000000000000 := by have := k2.2.1; omega
    have HT : Hid (∀ a, a < (H i).n + j → isTask ((catLine (H i) (Q i) j).T a)) := cat_tasks HG.out hiN (by omega)
    have l2h : LineAt w (some ⟨qb, qoff, none⟩) (headLine (Q i) j) := headLine_at l2 (by omega)
    have hlbw : lb < w2.heap.size := Nat.lt_of_lt_of_le hlb0 hbel2.size
    go_wp2
    go_region
    have hmb0 : (((w2.alloc (.cells #[.int .i64 ((Q i).T j), .bool ((Q i).S j)] 66)).alloc (.cells #[.slice ha (H i).n hc, .slice (some ⟨qb, qoff, none⟩) j qc] 50)).drew).heap[w2.heap.size]? = some (.cells #[.int .i64 ((Q i).T j), .bool ((Q i).S j)] 66 (0, 0)) := blk_alloc (heap_alloc_new w2 _) _
    have hlb1 : (((w2.alloc (.cells #[.int .i64 ((Q i).T j), .bool ((Q i).S j)] 66)).alloc (.cells #[.slice ha (H i).n hc, .slice (some ⟨qb, qoff, none⟩) j qc] 50)).drew).heap[w2.heap.size + 1]? = some (.cells #[.slice ha (H i).n hc, .slice (some ⟨qb, qoff, none⟩) j qc] 50 (0, 0)) := blk_drew (by simpa using heap_alloc_new (w2.alloc _) _)
    have hbelW := (push (push hbel2 (.cells #[.int .i64 ((Q i).T j), .bool ((Q i).S j)] 66)) (.cells #[.slice ha (H i).n hc, .slice (some ⟨qb, qoff, none⟩) j qc] 50)).drew
    generalize (((w2.alloc (.cells #[.int .i64 ((Q i).T j), .bool ((Q i).S j)] 66)).alloc (.cells #[.slice ha (H i).n hc, .slice (some ⟨qb, qoff, none⟩) j qc] 50)).drew) = W3 at *
    clear a1 a2 a3 e1 e2
    go_wp2
    go_loopg [6, 47] 2 (fun g v r wr => ∃ (r' : Nat) (ks : List Int), r' ≤ 2 ∧ g = 2 - r' ∧ r = .int .i64 r' ∧ WaitsIs wr w.heap.size v ks ∧ Hid (Strict ks ∧ ∀ y, y ∈ ks ↔ y ∈ seqTo (catLine (H i) (Q i) j) ((Q i).S j) (cumTo (H i).n j r')) ∧ Below W3.heap.size W3 wr)
    case atStart => exact ⟨0, [], by omega, rfl, rfl, WaitsIs.nil _ _, ⟨List.Pairwise.nil, fun y => Iff.rfl⟩, Below.refl _ _⟩
    case round =>
      obtain ⟨r', ks, hr, rfl, rfl, hwt, HK, hb4⟩ := hrel
      obtain ⟨w4, ew4⟩ : ∃ x, x = wr := ⟨_, rfl⟩
      subst ew4
      have hbel4 := after hbelW hb4
      have hmb := blk_below hmb0 hb4
      have hlb := blk_below hlb1 hb4
      have hc3 : r' = 0 ∨ r' = 1 ∨ r' = 2 := by omega
      rcases hc3 with rfl | rfl | rfl
      · have HK : Hid (Strict ks ∧ ∀ y, y ∈ ks ↔ y ∈ seqTo (catLine (H i) (Q i) j) ((Q i).S j) (0 + 0)) := HK
        have q1 := blk_cell hlb 0 _ rfl
        go_wp2
        go_loopg [6, 53] ((H i).n) (fun g v ii w5 => ∃ (t : Nat) (ks : List Int), t ≤ (H i).n ∧ g = (H i).n - t ∧ ii = .int .i64 t ∧ WaitsIs w5 w.heap.size v ks ∧ Hid (Strict ks ∧ ∀ y, y ∈ ks ↔ y ∈ seqTo (catLine (H i) (Q i) j) ((Q i).S j) (0 + t)) ∧ Below w4.heap.size w4 w5)
        case atStart => exact ⟨0, ks, Nat.zero_le _, rfl, rfl, hwt, HK, Below.refl _ _⟩
        case round =>
          clear hwt HK q1
          obtain ⟨t, ks, ht, rfl, rfl, hwt, HK, hb5⟩ := hrel
          obtain ⟨w5, ew5⟩ : ∃ x, x = wr := ⟨_, rfl⟩
          subst ew5
          have hbel5 := after hbel4 hb5
          have hfew := strict_few HK.out.1 HK.out.2 (fun a ha => HT.out a (by omega))
          have hsz5 := hbel5.size
          by_cases hlt : t < (H i).n
          · obtain ⟨b, off, rfl, g1, g2⟩ := l1 t hlt
            have hb := World.block_lt_of_cell? w _ g1
            have c1 := (hbel5.cell (p := ⟨b, off + t * 2, none⟩) hb).trans g1
            have c2 := (hbel5.cell (p := ⟨b, off + t * 2 + 1, none⟩) hb).trans g2
            clear g1 g2
            obtain ⟨av, cv, rfl, _⟩ := own_form hwt
            have hbm := blk_alloc (blk_below hmb hb5) (.cells #[.int .i64 ((H i).T t), .bool ((H i).S t)] 66)
            have m1 := blk_cell hbm 1 _ rfl
            have hbel6 := push hbel5 (.cells #[.int .i64 ((H i).T t), .bool ((H i).S t)] 66)
            have hwt6 := hwt.below (push (Below.refl _ w5) (.cells #[.int .i64 ((H i).T t), .bool ((H i).S t)] 66))
            have HC : Hid ((catLine (H i) (Q i) j).T (0 + t) = (H i).T t ∧ (catLine (H i) (Q i) j).S (0 + t) = (H i).S t) := by rw [Nat.zero_add]; exact cat_lo hlt
            generalize hsv : (H i).S t = sv at *
            have HSV : Hid ((H i).S t = sv) := hsv
            clear hsv
            generalize hmv : (Q i).S j = mv at *
            have HMV : Hid ((Q i).S j = mv) := hmv
            clear hmv
            cases hbad : (!sv || !mv) with
            | true =>
              have HY : Hid (seqTo (catLine (H i) (Q i) j) mv (0 + t + 1) = seqTo (catLine (H i) (Q i) j) mv (0 + t) ++ [(H i).T t]) := by
                have := seqTo_yes (l := catLine (H i) (Q i) j) (s := mv) (t := 0 + t) (by rw [HC.out.2]; exact hbad)
                rw [HC.out.1] at this; exact this
              cases sv with
              | false =>
                go_wp2_with fail
                refine (l1Put_any av _ cv w.heap.size ks ((H i).T t) _ hfew HK.out.1 hwt6 (by simp; omega)).mono ?_
                rintro e w6 ⟨⟨v', ks', rfl, hwt7, HK'⟩, hb6⟩
                go_wp2
                go_roundg ((H i).n - (t + 1))
                case measure => omega
                case rel => exact ⟨t + 1, ks', by omega, rfl, by go_num, hwt7, ⟨HK'.out.1, fun y => by rw [show 0 + (t + 1) = 0 + t + 1 by omega, HY.out, HK'.out.2 y, HK.out.2 y]; simp⟩, after (push hb5 _) hb6⟩
              | true =>
                obtain rfl : mv = false := by cases mv; rfl; simp at hbad
                go_wp2_with fail
                refine (l1Put_any av _ cv w.heap.size ks ((H i).T t) _ hfew HK.out.1 hwt6 (by simp; omega)).mono ?_
                rintro e w6 ⟨⟨v', ks', rfl, hwt7, HK'⟩, hb6⟩
                go_wp2
                go_roundg ((H i).n - (t + 1))
                case measure => omega
                case rel => exact ⟨t + 1, ks', by omega, rfl, by go_num, hwt7, ⟨HK'.out.1, fun y => by rw [show 0 + (t + 1) = 0 + t + 1 by omega, HY.out, HK'.out.2 y, HK.out.2 y]; simp⟩, after (push hb5 _) hb6⟩
            | false =>
              have HY : Hid (seqTo (catLine (H i) (Q i) j) mv (0 + t + 1) = seqTo (catLine (H i) (Q i) j) mv (0 + t)) := seqTo_no (by rw [HC.out.2]; exact hbad)
              obtain rfl : sv = true := by cases sv; simp at hbad; rfl
              obtain rfl : mv = true := by cases mv; simp at hbad; rfl
              go_wp2
              go_roundg ((H i).n - (t + 1))
              case measure => omega
              case rel => exact ⟨t + 1, ks, by omega, rfl, by go_num, hwt6, ⟨HK.out.1, fun y => by rw [show 0 + (t + 1) = 0 + t + 1 by omega, HY.out, HK.out.2 y]⟩, push hb5 _⟩
          · go_wp2
            have hte : t = (H i).n := by omega
            go_roundg 1
            case measure => omega
            case rel => exact ⟨1, ks, by omega, rfl, by go_num, hwt, ⟨HK.out.1, fun y => by rw [HK.out.2 y, hte]; rw [Nat.zero_add]; rfl⟩, after hb4 hb5⟩
      · have HK : Hid (Strict ks ∧ ∀ y, y ∈ ks ↔ y ∈ seqTo (catLine (H i) (Q i) j) ((Q i).S j) ((H i).n + 0)) := HK
        have q1 := blk_cell hlb 1 _ rfl
        go_wp2
        go_loopg [6, 53] (j) (fun g v ii w5 => ∃ (t : Nat) (ks : List Int), t ≤ j ∧ g = j - t ∧ ii = .int .i64 t ∧ WaitsIs w5 w.heap.size v ks ∧ Hid (Strict ks ∧ ∀ y, y ∈ ks ↔ y ∈ seqTo (catLine (H i) (Q i) j) ((Q i).S j) ((H i).n + t)) ∧ Below w4.heap.size w4 w5)
        case atStart => exact ⟨0, ks, Nat.zero_le _, rfl, rfl, hwt, HK, Below.refl _ _⟩
        case round =>
          clear hwt HK q1
          obtain ⟨t, ks, ht, rfl, rfl, hwt, HK, hb5⟩ := hrel
          obtain ⟨w5, ew5⟩ : ∃ x, x = wr := ⟨_, rfl⟩
          subst ew5
          have hbel5 := after hbel4 hb5
          have hfew := strict_few HK.out.1 HK.out.2 (fun a ha => HT.out a (by omega))
          have hsz5 := hbel5.size
          by_cases hlt : t < j
          · obtain ⟨b, off, eb, g1, g2⟩ := l2h t hlt
            simp only [Option.some.injEq, Addr.mk.injEq, and_true] at eb
            rw [← eb.1, ← eb.2] at g1 g2
            clear eb
            have hb := World.block_lt_of_cell? w _ g1
            have c1 := (hbel5.cell (p := ⟨qb, qoff + t * 2, none⟩) hb).trans g1
            have c2 := (hbel5.cell (p := ⟨qb, qoff + t * 2 + 1, none⟩) hb).trans g2
            clear g1 g2
            obtain ⟨av, cv, rfl, _⟩ := own_form hwt
            have hbm := blk_alloc (blk_below hmb hb5) (.cells #[.int .i64 ((headLine (Q i) j).T t), .bool ((headLine (Q i) j).S t)] 66)
            have m1 := blk_cell hbm 1 _ rfl
            have hbel6 := push hbel5 (.cells #[.int .i64 ((headLine (Q i) j).T t), .bool ((headLine (Q i) j).S t)] 66)
            have hwt6 := hwt.below (push (Below.refl _ w5) (.cells #[.int .i64 ((headLine (Q i) j).T t), .bool ((headLine (Q i) j).S t)] 66))
            have HC : Hid ((catLine (H i) (Q i) j).T ((H i).n + t) = (headLine (Q i) j).T t ∧ (catLine (H i) (Q i) j).S ((H i).n + t) = (headLine (Q i) j).S t) := cat_hi
            generalize hsv : (headLine (Q i) j).S t = sv at *
            have HSV : Hid ((headLine (Q i) j).S t = sv) := hsv
            clear hsv
            generalize hmv : (Q i).S j = mv at *
            have HMV : Hid ((Q i).S j = mv) := hmv
            clear hmv
            cases hbad : (!sv || !mv) with
            | true =>
              have HY : Hid (seqTo (catLine (H i) (Q i) j) mv ((H i).n + t + 1) = seqTo (catLine (H i) (Q i) j) mv ((H i).n + t) ++ [(headLine (Q i) j).T t]) := by
                have := seqTo_yes (l := catLine (H i) (Q i) j) (s := mv) (t := (H i).n + t) (by rw [HC.out.2]; exact hbad)
                rw [HC.out.1] at this; exact this
              cases sv with
              | false =>
                go_wp2_with fail
                refine (l1Put_any av _ cv w.heap.size ks ((headLine (Q i) j).T t) _ hfew HK.out.1 hwt6 (by simp; omega)).mono ?_
                rintro e w6 ⟨⟨v', ks', rfl, hwt7, HK'⟩, hb6⟩
                go_wp2
                go_roundg (j - (t + 1))
                case measure => omega
                case rel => exact ⟨t + 1, ks', by omega, rfl, by go_num, hwt7, ⟨HK'.out.1, fun y => by rw [show (H i).n + (t + 1) = (H i).n + t + 1 by omega, HY.out, HK'.out.2 y, HK.out.2 y]; simp⟩, after (push hb5 _) hb6⟩
              | true =>
                obtain rfl : mv = false := by cases mv; rfl; simp at hbad
                go_wp2_with fail
                refine (l1Put_any av _ cv w.heap.size ks ((headLine (Q i) j).T t) _ hfew HK.out.1 hwt6 (by simp; omega)).mono ?_
                rintro e w6 ⟨⟨v', ks', rfl, hwt7, HK'⟩, hb6⟩
                go_wp2
                go_roundg (j - (t + 1))
                case measure => omega
                case rel => exact ⟨t + 1, ks', by omega, rfl, by go_num, hwt7, ⟨HK'.out.1, fun y => by rw [show (H i).n + (t + 1) = (H i).n + t + 1 by omega, HY.out, HK'.out.2 y, HK.out.2 y]; simp⟩, after (push hb5 _) hb6⟩
            | false =>
              have HY : Hid (seqTo (catLine (H i) (Q i) j) mv ((H i).n + t + 1) = seqTo (catLine (H i) (Q i) j) mv ((H i).n + t)) := seqTo_no (by rw [HC.out.2]; exact hbad)
              obtain rfl : sv = true := by cases sv; simp at hbad; rfl
              obtain rfl : mv = true := by cases mv; simp at hbad; rfl
              go_wp2
              go_roundg (j - (t + 1))
              case measure => omega
              case rel => exact ⟨t + 1, ks, by omega, rfl, by go_num, hwt6, ⟨HK.out.1, fun y => by rw [show (H i).n + (t + 1) = (H i).n + t + 1 by omega, HY.out, HK.out.2 y]⟩, push hb5 _⟩
          · go_wp2
            have hte : t = j := by omega
            go_roundg 0
            case measure => omega
            case rel => exact ⟨2, ks, by omega, rfl, by go_num, hwt, ⟨HK.out.1, fun y => by rw [HK.out.2 y, hte]; rfl⟩, after hb4 hb5⟩
      · go_wp2
        go_ret
        exact ⟨⟨_, ks, rfl, hwt, .inr ⟨i, j, HI.out, HJ.out, HK.out⟩⟩, hbel4⟩
  · have HN : Hid (noWait N Q x) := hno
    clear hno
    go_wp2
    go_ret
    exact ⟨⟨_, [], rfl, WaitsIs.nil _ _, .inl ⟨HN.out, rfl⟩⟩, hb1⟩

end Go.Proofs.Ytbmaiidpeafkjag
