/-
  OWN TEXT: LSails, LStay, LRoom, LSeat.
-/
import Derived.Test.YtlelckbeoclhbaaGreatRows
import Derived.Deep.RegionHeld3
import Derived.Test.YtlelckbeoclhbaaGreatB31
import Derived.Test.YtlelckbeoclhbaaGreatB29
import Derived.Test.YtlelckbeoclhbaaGreatB16
set_option maxHeartbeats 12800000
set_option maxRecDepth 100000
namespace Go.Proofs.YtlelckbeoclhbaaGreat
open Go.RowKit
theorem szSailingS_le (ao : Option Addr) (N c : Nat) (S : Nat → Sail) (w : World) (hN : N ≤ 1000000000000000) (hs : ShortAll N S 1000000000000000) (hx : SailsAt w ao N S) :
    Calls Tryz.prog 13 #[.slice ao N c, .int .i64 1048576] w fun e w' => ∃ r : Int, e = .returned (.int .i64 r) ∧ (r = -1 ∨ (0 ≤ r ∧ r ≤ 1048576 ∧ N ≤ 1048576 ∧ ShortAll N S 1048576)) ∧ Below w.heap.size w w' := by
  have HS : Hid (ShortAll N S 1000000000000000) := hs
  clear hs
  by_cases hf : N ≤ 1048576
  · have d0 : decide ((1048576 : Int) - (N : Int) < 0) = false := by simp; omega
    go_enter Tryz.func13, Tryz.ntmps13
    go_wp2
    go_loopw [1, 5] (fun l i wr => ∃ (k : Nat) (L : Int), k ≤ N ∧ i = .int .i64 k ∧ l = .int .i64 L ∧ 0 ≤ L ∧ L ≤ 1048576 ∧ ShortAll k S 1048576 ∧ Below w.heap.size w wr) (fun _ i _ => N - (intOf i).toNat)
    case atStart => exact ⟨0, _, Nat.zero_le _, rfl, rfl, by omega, by omega, fun i hi => by omega, Below.refl _ _⟩
    case round =>
      obtain ⟨k, L, hk, rfl, rfl, l0, l1, hst, hbel⟩ := hrel
      have HT : Hid (ShortAll k S 1048576) := hst
      clear hst d0
      by_cases hlt : k < N
      · obtain ⟨b, off, la, lc, ca, cc, rfl, h0, h1, h2, h3, h4, h5, h6, h7, h8, h9, h10, h11⟩ := hx k hlt
        have hb := World.block_lt_of_cell? w _ h1
        have c0 := (hbel.cell (p := ⟨b, off + k * 8, none⟩) hb).trans h0
        have c1 := (hbel.cell (p := ⟨b, off + k * 8 + 1, none⟩) hb).trans h1
        have c2 := (hbel.cell (p := ⟨b, off + k * 8 + 2, none⟩) hb).trans h2
        have c3 := (hbel.cell (p := ⟨b, off + k * 8 + 3, none⟩) hb).trans h3
        have c4 := (hbel.cell (p := ⟨b, off + k * 8 + 4, none⟩) hb).trans h4
        have c5 := (hbel.cell (p := ⟨b, off + k * 8 + 5, none⟩) hb).trans h5
        have c6 := (hbel.cell (p := ⟨b, off + k * 8 + 6, none⟩) hb).trans h6
        have c7 := (hbel.cell (p := ⟨b, off + k * 8 + 7, none⟩) hb).trans h7
        obtain ⟨s1, s2, s3, s4⟩ := HS.out k hlt
        clear h0 h1 h2 h3 h4 h5 h6 h7 h8 h9 h10 h11
        go_wp2_with fail
        refine (szSailing_any _ _ _ _ _ _ _ _ _ _ _ _ L _ l0 l1 s1 s2 s3 s4).mono ?_
        rintro e w2 ⟨r, rfl, hr, hb3⟩
        rcases hr with rfl | ⟨r0, r1, r2, r3, r4, r5⟩
        · go_wp2
          go_ret
          exact ⟨_, rfl, .inl rfl, after hbel hb3⟩
        · have d1 : decide (r < 0) = false := by simpa using r0
          go_wp2
          go_roundw
          case rel =>
            refine ⟨k + 1, r, by omega, by go_num, rfl, r0, by omega, fun i hi => ?_, after hbel hb3⟩
            by_cases e : i = k
            · subst e; exact ⟨r2, r3, r4, r5⟩
            · exact HT.out i (by omega)
          case measure => simp [intOf]; omega
      · obtain rfl : k = N := by omega
        go_wp2
        go_ret
        exact ⟨_, rfl, .inr ⟨l0, l1, hf, HT.out⟩, hbel⟩
  · have d0 : decide ((1048576 : Int) - (N : Int) < 0) = true := by simp; omega
    go_enter Tryz.func13, Tryz.ntmps13
    go_wp2
    go_ret
    exact ⟨_, rfl, .inl rfl, Below.refl _ _⟩
theorem szSailingS_any (ao : Option Addr) (N c : Nat) (S : Nat → Sail) (w : World) (hN : N ≤ 1000000000000000) (hs : ShortAll N S 1000000000000000) (hx : SailsAt w ao N S) :
    Calls Tryz.prog 13 #[.slice ao N c, .int .i64 1048576] w fun e w' => ∃ r : Int, e = .returned (.int .i64 r) ∧ (r = -1 ∨ (0 ≤ r ∧ N ≤ 1048576 ∧ ShortAll N S 1048576)) ∧ Below w.heap.size w w' :=
  (szSailingS_le ao N c S w hN hs hx).mono fun _ _ ⟨r, e, hr, hb⟩ => ⟨r, e, hr.imp id (fun h => ⟨h.1, h.2.2⟩), hb⟩
theorem toSailingS_any (ao : Option Addr) (N cap : Nat) (S : Nat → Sail) (w : World) (hN : N ≤ 1048576) (hs : ShortAll N S 1048576) (hz : SailsAt w ao N S) :
    Calls Tryz.prog 22 #[.slice ao N cap] w fun e w' => ∃ g l c, e = .returned (.slice (some ⟨g, 0, none⟩) N N) ∧ SailsTo w' 54 122 124 N w.heap.size g N S l c ∧ Below w.heap.size w w' := by
  obtain ⟨i0, hi, hz0, hz1, hz2⟩ := info_parts Tryz.infoSailing
  have HS : Hid (ShortAll N S 1048576) := hs
  clear hs
  go_enter Tryz.func22, Tryz.ntmps22
  go_wp2_with (first | (at_make; refine wpList_make_full _ rfl _ _ 36 rfl w.heap.size 54 i0 _ 8 Tryz.underlying36 hi hz0 hz1 .i64 .i64 _ _ N rfl rfl rfl rfl (by rw [hz2]; omega) (by unfold maxLen; omega) (Nat.le_refl _) ?_; intro w1 hown1 hgrow1))
  go_loopw [4] (fun i wr => ∃ (k : Nat) (l c : Nat → Nat), k ≤ N ∧ i = .int .i64 k ∧ SailsTo wr 54 122 124 k w.heap.size w.heap.size N S l c ∧ Below w.heap.size w wr)
    (fun i _ => N - (intOf i).toNat)
  case atStart => exact ⟨0, fun _ => 0, fun _ => 0, Nat.zero_le _, rfl, ⟨(row_of_own hown1).congr (fun j hj => made_sails N j hj), Nat.le_refl _, fun i hi => by omega, fun i hi => by omega, fun i j _ hj => by omega⟩, (Below.refl _ _).grown hgrow1 (Nat.le_refl _) (by simp)⟩
  case round =>
    obtain ⟨k, l, c, hk, rfl, hrow, hbel⟩ := hrel
    clear hown1 hgrow1
    by_cases hlt : k < N
    · obtain ⟨b, off, la, lc, ca, cc, rfl, h0, h1, h2, h3, h4, h5, h6, h7, h8, h9, h10, h11⟩ := hz k hlt
      have hb := World.block_lt_of_cell? w _ h1
      have c0 := (hbel.cell (p := ⟨b, off + k * 8, none⟩) hb).trans h0
      have c1 := (hbel.cell (p := ⟨b, off + k * 8 + 1, none⟩) hb).trans h1
      have c2 := (hbel.cell (p := ⟨b, off + k * 8 + 2, none⟩) hb).trans h2
      have c3 := (hbel.cell (p := ⟨b, off + k * 8 + 3, none⟩) hb).trans h3
      have c4 := (hbel.cell (p := ⟨b, off + k * 8 + 4, none⟩) hb).trans h4
      have c5 := (hbel.cell (p := ⟨b, off + k * 8 + 5, none⟩) hb).trans h5
      have c6 := (hbel.cell (p := ⟨b, off + k * 8 + 6, none⟩) hb).trans h6
      have c7 := (hbel.cell (p := ⟨b, off + k * 8 + 7, none⟩) hb).trans h7
      obtain ⟨_, _, s3, s4⟩ := HS.out k hlt
      clear h0 h1 h2 h3 h4 h5 h6 h7 h10 h11
      go_wp2_with fail
      refine (toSailing_any _ _ _ _ _ _ _ _ _ _ _ _ (S k).la (S k).ca _ rfl rfl s3 s4 (h8.below hbel) (h9.below hbel)).mono ?_
      rintro e w2 ⟨a, b', rfl, ga, gab, ra, rb, hb2⟩
      have hr2 := hrow.below hb2
      have o0 := hr2.row.cell (i := k * 8) (by omega)
      have o1 := hr2.row.cell (i := k * 8 + 1) (by omega)
      have o2 := hr2.row.cell (i := k * 8 + 2) (by omega)
      have o3 := hr2.row.cell (i := k * 8 + 3) (by omega)
      have o4 := hr2.row.cell (i := k * 8 + 4) (by omega)
      have o5 := hr2.row.cell (i := k * 8 + 5) (by omega)
      have o6 := hr2.row.cell (i := k * 8 + 6) (by omega)
      have o7 := hr2.row.cell (i := k * 8 + 7) (by omega)
      have f0 := hr2.row.frozen (k * 8)
      have f1 := hr2.row.frozen (k * 8 + 1)
      have f2 := hr2.row.frozen (k * 8 + 2)
      have f3 := hr2.row.frozen (k * 8 + 3)
      have f4 := hr2.row.frozen (k * 8 + 4)
      have f5 := hr2.row.frozen (k * 8 + 5)
      have f6 := hr2.row.frozen (k * 8 + 6)
      have f7 := hr2.row.frozen (k * 8 + 7)
      clear c0 c1 c2 c3 c4 c5 c6 c7 h8 h9
      go_wp2
      go_roundw
      case rel =>
        have hg := hrow.row.lt
        have key := hr2.step (by omega) gab (fun i hi => by have := (hrow.cabins i hi).2.lt; omega) ra rb
        unfold set8 whole at key
        exact ⟨k + 1, _, _, by omega, by go_num, key, (((((((((after hbel hb2).setCell (Nat.le_refl _) _).setCell (Nat.le_refl _) _).setCell (Nat.le_refl _) _).setCell (Nat.le_refl _) _).setCell (Nat.le_refl _) _).setCell (Nat.le_refl _) _).setCell (Nat.le_refl _) _).setCell (Nat.le_refl _) _)⟩
      case measure => simp [intOf]; omega
    · obtain rfl : k = N := by omega
      go_wp2
      go_ret
      exact ⟨_, l, c, rfl, hrow, hbel⟩
theorem eqSailingS_same (ao bo : Option Addr) (N c1 c2 : Nat) (S : Nat → Sail) (w : World) (hN : N ≤ 1048576) (hs : ShortAll N S 1048576) (hx : SailsAt w ao N S) (hy : SailsAt w bo N S) :
    Calls Tryz.prog 33 #[.slice ao N c1, .slice bo N c2] w fun e w' => e = .returned (.bool true) ∧ Below w.heap.size w w' := by
  have HS : Hid (ShortAll N S 1048576) := hs
  clear hs
  go_enter Tryz.func33, Tryz.ntmps33
  go_wp2
  go_loopw [5] (fun i wr => ∃ k : Nat, k ≤ N ∧ i = .int .i64 k ∧ Below w.heap.size w wr) (fun i _ => N - (intOf i).toNat)
  case atStart => exact ⟨0, Nat.zero_le _, rfl, Below.refl _ _⟩
  case round =>
    obtain ⟨k, hk, rfl, hbel⟩ := hrel
    by_cases hlt : k < N
    · obtain ⟨b, off, la, lc, ca, cc, rfl, h0, h1, h2, h3, h4, h5, h6, h7, h8, h9, _, _⟩ := hx k hlt
      obtain ⟨b2, off2, la2, lc2, ca2, cc2, rfl, g0, g1, g2, g3, g4, g5, g6, g7, g8, g9, _, _⟩ := hy k hlt
      have hb := World.block_lt_of_cell? w _ h1
      have hb2 := World.block_lt_of_cell? w _ g1
      have a0 := (hbel.cell (p := ⟨b, off + k * 8, none⟩) hb).trans h0
      have a1 := (hbel.cell (p := ⟨b, off + k * 8 + 1, none⟩) hb).trans h1
      have a2 := (hbel.cell (p := ⟨b, off + k * 8 + 2, none⟩) hb).trans h2
      have a3 := (hbel.cell (p := ⟨b, off + k * 8 + 3, none⟩) hb).trans h3
      have a4 := (hbel.cell (p := ⟨b, off + k * 8 + 4, none⟩) hb).trans h4
      have a5 := (hbel.cell (p := ⟨b, off + k * 8 + 5, none⟩) hb).trans h5
      have a6 := (hbel.cell (p := ⟨b, off + k * 8 + 6, none⟩) hb).trans h6
      have a7 := (hbel.cell (p := ⟨b, off + k * 8 + 7, none⟩) hb).trans h7
      have d0 := (hbel.cell (p := ⟨b2, off2 + k * 8, none⟩) hb2).trans g0
      have d1 := (hbel.cell (p := ⟨b2, off2 + k * 8 + 1, none⟩) hb2).trans g1
      have d2 := (hbel.cell (p := ⟨b2, off2 + k * 8 + 2, none⟩) hb2).trans g2
      have d3 := (hbel.cell (p := ⟨b2, off2 + k * 8 + 3, none⟩) hb2).trans g3
      have d4 := (hbel.cell (p := ⟨b2, off2 + k * 8 + 4, none⟩) hb2).trans g4
      have d5 := (hbel.cell (p := ⟨b2, off2 + k * 8 + 5, none⟩) hb2).trans g5
      have d6 := (hbel.cell (p := ⟨b2, off2 + k * 8 + 6, none⟩) hb2).trans g6
      have d7 := (hbel.cell (p := ⟨b2, off2 + k * 8 + 7, none⟩) hb2).trans g7
      obtain ⟨_, _, s3, s4⟩ := HS.out k hlt
      have h8 := h8.below hbel.drew
      have h9 := h9.below hbel.drew
      have g8 := g8.below hbel.drew
      have g9 := g9.below hbel.drew
      clear h0 h1 h2 h3 h4 h5 h6 h7 g0 g1 g2 g3 g4 g5 g6 g7
      have hbw : b < wr.heap.size := Nat.lt_of_lt_of_le hb hbel.size
      have hbw2 : b2 < wr.heap.size := Nat.lt_of_lt_of_le hb2 hbel.size
      have i1 : (0 : Int) ≤ (k : Int) := by omega
      have i2 : (k : Int) < (N : Int) := by omega
      go_wp2
      go_region_held3 (fun w' => (w'.cell? ⟨b, off + k * 8, none⟩ = some (.int .i64 (S k).id) ∧ w'.cell? ⟨b, off + k * 8 + 1, none⟩ = some (.string (S k).fr) ∧ w'.cell? ⟨b, off + k * 8 + 2, none⟩ = some (.string (S k).dst) ∧ w'.cell? ⟨b, off + k * 8 + 3, none⟩ = some (.int .i64 (S k).dep) ∧ w'.cell? ⟨b, off + k * 8 + 4, none⟩ = some (.int .i64 (S k).arr) ∧ w'.cell? ⟨b, off + k * 8 + 5, none⟩ = some (.slice la (S k).la.n lc) ∧ w'.cell? ⟨b, off + k * 8 + 6, none⟩ = some (.slice ca (S k).ca.n cc) ∧ w'.cell? ⟨b, off + k * 8 + 7, none⟩ = some (.int .i64 (S k).most)) ∧
          (w'.cell? ⟨b2, off2 + k * 8, none⟩ = some (.int .i64 (S k).id) ∧ w'.cell? ⟨b2, off2 + k * 8 + 1, none⟩ = some (.string (S k).fr) ∧ w'.cell? ⟨b2, off2 + k * 8 + 2, none⟩ = some (.string (S k).dst) ∧ w'.cell? ⟨b2, off2 + k * 8 + 3, none⟩ = some (.int .i64 (S k).dep) ∧ w'.cell? ⟨b2, off2 + k * 8 + 4, none⟩ = some (.int .i64 (S k).arr) ∧ w'.cell? ⟨b2, off2 + k * 8 + 5, none⟩ = some (.slice la2 (S k).la.n lc2) ∧ w'.cell? ⟨b2, off2 + k * 8 + 6, none⟩ = some (.slice ca2 (S k).ca.n cc2) ∧ w'.cell? ⟨b2, off2 + k * 8 + 7, none⟩ = some (.int .i64 (S k).most)))
        (first | exact ⟨⟨a0, a1, a2, a3, a4, a5, a6, a7⟩, ⟨d0, d1, d2, d3, d4, d5, d6, d7⟩⟩ | exact ⟨⟨(hbb.cell hbw).trans a0, (hbb.cell hbw).trans a1, (hbb.cell hbw).trans a2, (hbb.cell hbw).trans a3, (hbb.cell hbw).trans a4, (hbb.cell hbw).trans a5, (hbb.cell hbw).trans a6, (hbb.cell hbw).trans a7⟩, ⟨(hbb.cell hbw2).trans d0, (hbb.cell hbw2).trans d1, (hbb.cell hbw2).trans d2, (hbb.cell hbw2).trans d3, (hbb.cell hbw2).trans d4, (hbb.cell hbw2).trans d5, (hbb.cell hbw2).trans d6, (hbb.cell hbw2).trans d7⟩⟩)
        (first | (go_at_call 72; refine (eqSailing_same _ _ _ _ _ _ _ _ _ _ _ _ _ _ _ _ (S k).la (S k).ca _ rfl rfl s3 s4 h8 h9 g8 g9).mono ?_; rintro e w2 ⟨rfl, hbb⟩))
      go_wp2
      go_roundw
      case rel => exact ⟨k + 1, by omega, by go_num, after hbel.drew hbb⟩
      case measure => simp [intOf]; omega
    · go_wp2
      go_ret
      exact ⟨rfl, hbel⟩
end Go.Proofs.YtlelckbeoclhbaaGreat

namespace Go.Proofs.YtlelckbeoclhbaaGreat
open Go.RowKit
theorem toStay_any (a0 : Int) (a1 : Int) (a2 : Int) (a3 : Int) (w : World) :
    Calls Tryz.prog 136 #[.agg #[.int .i64 a0, .int .i64 a1, .int .i64 a2, .int .i64 a3]] w fun e w' => e = .returned (.agg #[.int .i64 a0, .int .i64 a1, .int .i64 a2, .int .i64 a3]) ∧ Below w.heap.size w w' := by
  go_enter Tryz.func136, Tryz.ntmps136
  go_wp2
  exact bodyPost_ret (v := .agg #[.int .i64 a0, .int .i64 a1, .int .i64 a2, .int .i64 a3]) (by simp [results, Tryz.results136, go_sem]) rfl ⟨rfl, push (push (push (Below.refl _ _) _) _) _⟩
theorem eqStay_same (a0 : Int) (a1 : Int) (a2 : Int) (a3 : Int) (w : World) :
    Calls Tryz.prog 162 #[.agg #[.int .i64 a0, .int .i64 a1, .int .i64 a2, .int .i64 a3], .agg #[.int .i64 a0, .int .i64 a1, .int .i64 a2, .int .i64 a3]] w fun e w' => e = .returned (.bool true) ∧ Below w.heap.size w w' := by
  go_enter Tryz.func162, Tryz.ntmps162
  go_wp2
  go_ret
  exact ⟨rfl, push (push (Below.refl _ _) _) _⟩
theorem toStayS_any (ao : Option Addr) (n cap : Nat) (S : Nat → Stay) (w : World) (hn : n ≤ 1048576) (hz : StaysAt w ao n S) :
    Calls Tryz.prog 101 #[.slice ao n cap] w fun e w' => ∃ g, e = .returned (.slice (some ⟨g, 0, none⟩) n n) ∧ w.heap.size ≤ g ∧
      w'.rowIs g 118 (n * 4) (stayCell S) ∧ Below w.heap.size w w' := by
  obtain ⟨i0, hi, hz0, hz1, hz2⟩ := info_parts Tryz.infoStay
  go_enter Tryz.func101, Tryz.ntmps101
  go_wp2_with (first | (at_make; refine wpList_make_full _ rfl _ _ 58 rfl w.heap.size 118 i0 _ 4 Tryz.underlying58 hi hz0 hz1 .i64 .i64 _ _ n rfl rfl rfl rfl (by rw [hz2]; omega) (by unfold maxLen; omega) (Nat.le_refl _) ?_; intro w1 hown1 hgrow1))
  go_loopw [4] (fun i wr => ∃ k : Nat, k ≤ n ∧ i = .int .i64 k ∧ wr.rowIs w.heap.size 118 (n * 4) (stayCell (upto k S Stay.zero)) ∧ Below w.heap.size w wr)
    (fun i _ => n - (intOf i).toNat)
  case atStart => exact ⟨0, Nat.zero_le _, rfl, (row_of_own hown1).congr (fun j hj => made_stays n j hj), (Below.refl _ _).grown hgrow1 (Nat.le_refl _) (by simp)⟩
  case round =>
    obtain ⟨k, hk, rfl, hrow, hbel⟩ := hrel
    clear hown1 hgrow1
    by_cases hlt : k < n
    · obtain ⟨b, off, rfl, h0, h1, h2, h3⟩ := hz k (by omega)
      have hb := World.block_lt_of_cell? w _ h0
      have c0 := (hbel.cell (p := ⟨b, off + k * 4, none⟩) hb).trans h0
      have c1 := (hbel.cell (p := ⟨b, off + k * 4 + 1, none⟩) hb).trans h1
      have c2 := (hbel.cell (p := ⟨b, off + k * 4 + 2, none⟩) hb).trans h2
      have c3 := (hbel.cell (p := ⟨b, off + k * 4 + 3, none⟩) hb).trans h3
      clear h0 h1 h2 h3
      go_wp2_with (first | (go_at_call 136; refine (toStay_any _ _ _ _ _).mono ?_; rintro e w2 ⟨rfl, hb2⟩; have hr2 := hrow.of_block (hb2.block _ hrow.lt); have o0 := hr2.cell (i := k * 4) (by omega); have o1 := hr2.cell (i := k * 4 + 1) (by omega); have o2 := hr2.cell (i := k * 4 + 2) (by omega); have o3 := hr2.cell (i := k * 4 + 3) (by omega); have f0 := hr2.frozen (k * 4); have f1 := hr2.frozen (k * 4 + 1); have f2 := hr2.frozen (k * 4 + 2); have f3 := hr2.frozen (k * 4 + 3)))
      go_roundw
      case rel =>
        refine ⟨k + 1, by omega, by go_num, ?_, ?_⟩
        · have := stay_set (k := k) (S' := upto (k + 1) S Stay.zero) hr2 (fun i h => upto_step _ _ _ _ h)
          simp only [upto_lt _ _ (Nat.lt_succ_self k)] at this
          exact this
        · exact (((((after hbel hb2).setCell (Nat.le_refl _) _).setCell (Nat.le_refl _) _).setCell (Nat.le_refl _) _).setCell (Nat.le_refl _) _)
      case measure => simp [intOf]; omega
    · go_wp2
      go_ret
      exact ⟨_, rfl, Nat.le_refl _, hrow.congr (fun j hj => by unfold stayCell; rw [upto_lt _ _ (by omega)]), hbel⟩
theorem eqStayS_same (ao bo : Option Addr) (n c1 c2 : Nat) (S : Nat → Stay) (w : World) (hn : n ≤ 2097152) (hx : StaysAt w ao n S) (hy : StaysAt w bo n S) :
    Calls Tryz.prog 130 #[.slice ao n c1, .slice bo n c2] w fun e w' => e = .returned (.bool true) ∧ Below w.heap.size w w' := by
  go_enter Tryz.func130, Tryz.ntmps130
  go_wp2
  go_loopw [5] (fun i wr => ∃ k : Nat, k ≤ n ∧ i = .int .i64 k ∧ Below w.heap.size w wr) (fun i _ => n - (intOf i).toNat)
  case atStart => exact ⟨0, Nat.zero_le _, rfl, Below.refl _ _⟩
  case round =>
    obtain ⟨k, hk, rfl, hbel⟩ := hrel
    by_cases hlt : k < n
    · obtain ⟨b, off, rfl, h0, h1, h2, h3⟩ := hx k (by omega)
      obtain ⟨b2, off2, rfl, g0, g1, g2, g3⟩ := hy k (by omega)
      have hb := World.block_lt_of_cell? w _ h0
      have hb2 := World.block_lt_of_cell? w _ g0
      have c0 := (hbel.cell (p := ⟨b, off + k * 4, none⟩) hb).trans h0
      have d0 := (hbel.cell (p := ⟨b2, off2 + k * 4, none⟩) hb2).trans g0
      have c1 := (hbel.cell (p := ⟨b, off + k * 4 + 1, none⟩) hb).trans h1
      have d1 := (hbel.cell (p := ⟨b2, off2 + k * 4 + 1, none⟩) hb2).trans g1
      have c2 := (hbel.cell (p := ⟨b, off + k * 4 + 2, none⟩) hb).trans h2
      have d2 := (hbel.cell (p := ⟨b2, off2 + k * 4 + 2, none⟩) hb2).trans g2
      have c3 := (hbel.cell (p := ⟨b, off + k * 4 + 3, none⟩) hb).trans h3
      have d3 := (hbel.cell (p := ⟨b2, off2 + k * 4 + 3, none⟩) hb2).trans g3
      clear h0 g0 h1 g1 h2 g2 h3 g3
      have hbw : b < wr.heap.size := Nat.lt_of_lt_of_le hb hbel.size
      have hbw2 : b2 < wr.heap.size := Nat.lt_of_lt_of_le hb2 hbel.size
      have i1 : (0 : Int) ≤ (k : Int) := by omega
      have i2 : (k : Int) < (n : Int) := by omega
      go_wp2
      go_region_held3 (fun w' => w'.cell? ⟨b, off + k * 4, none⟩ = some (.int .i64 (S k).who) ∧ w'.cell? ⟨b, off + k * 4 + 1, none⟩ = some (.int .i64 (S k).ln) ∧ w'.cell? ⟨b, off + k * 4 + 2, none⟩ = some (.int .i64 (S k).len) ∧ w'.cell? ⟨b, off + k * 4 + 3, none⟩ = some (.int .i64 (S k).hei) ∧ w'.cell? ⟨b2, off2 + k * 4, none⟩ = some (.int .i64 (S k).who) ∧ w'.cell? ⟨b2, off2 + k * 4 + 1, none⟩ = some (.int .i64 (S k).ln) ∧ w'.cell? ⟨b2, off2 + k * 4 + 2, none⟩ = some (.int .i64 (S k).len) ∧ w'.cell? ⟨b2, off2 + k * 4 + 3, none⟩ = some (.int .i64 (S k).hei))
        (first | exact ⟨c0, c1, c2, c3, d0, d1, d2, d3⟩ | exact ⟨(hbb.cell hbw).trans c0, (hbb.cell hbw).trans c1, (hbb.cell hbw).trans c2, (hbb.cell hbw).trans c3, (hbb.cell hbw2).trans d0, (hbb.cell hbw2).trans d1, (hbb.cell hbw2).trans d2, (hbb.cell hbw2).trans d3⟩)
        (first | (go_at_call 162; refine (eqStay_same _ _ _ _ _).mono ?_; rintro e w2 ⟨rfl, hbb⟩))
      go_wp2
      go_roundw
      case rel => exact ⟨k + 1, by omega, by go_num, after hbel.drew hbb⟩
      case measure => simp [intOf]; omega
    · go_wp2
      go_ret
      exact ⟨rfl, hbel⟩
theorem szStayS_any (ao : Option Addr) (n c : Nat) (L : Int) (w : World) (h0 : 0 ≤ L) (hL : L ≤ 1048576) (hn : n ≤ 1000000000000000) :
    Calls Tryz.prog 84 #[.slice ao n c, .int .i64 L] w fun e w' => ∃ r : Int, e = .returned (.int .i64 r) ∧ (r = -1 ∨ (0 ≤ r ∧ r ≤ L ∧ n ≤ 1048576)) ∧ Below w.heap.size w w' := by
  by_cases h : (n : Int) ≤ L
  · go_enter Tryz.func84, Tryz.ntmps84
    go_wp2
    go_ret
    exact ⟨_, rfl, .inr ⟨by omega, by omega, by omega⟩, Below.refl _ _⟩
  · go_enter Tryz.func84, Tryz.ntmps84
    go_wp2
    go_ret
    exact ⟨_, rfl, .inl rfl, Below.refl _ _⟩
end Go.Proofs.YtlelckbeoclhbaaGreat

namespace Go.Proofs.YtlelckbeoclhbaaGreat
open Go.RowKit
theorem toRoom_any (a0 : Int) (a1 : Int) (a2 : Int) (a3 : Bool) (w : World) :
    Calls Tryz.prog 137 #[.agg #[.int .i64 a0, .int .i64 a1, .int .i64 a2, .bool a3]] w fun e w' => e = .returned (.agg #[.int .i64 a0, .int .i64 a1, .int .i64 a2, .bool a3]) ∧ Below w.heap.size w w' := by
  go_enter Tryz.func137, Tryz.ntmps137
  go_wp2
  exact bodyPost_ret (v := .agg #[.int .i64 a0, .int .i64 a1, .int .i64 a2, .bool a3]) (by simp [results, Tryz.results137, go_sem]) rfl ⟨rfl, push (push (push (Below.refl _ _) _) _) _⟩
theorem eqRoom_same (a0 : Int) (a1 : Int) (a2 : Int) (a3 : Bool) (w : World) :
    Calls Tryz.prog 163 #[.agg #[.int .i64 a0, .int .i64 a1, .int .i64 a2, .bool a3], .agg #[.int .i64 a0, .int .i64 a1, .int .i64 a2, .bool a3]] w fun e w' => e = .returned (.bool true) ∧ Below w.heap.size w w' := by
  go_enter Tryz.func163, Tryz.ntmps163
  go_wp2
  go_ret
  exact ⟨rfl, push (push (Below.refl _ _) _) _⟩
theorem toRoomS_any (ao : Option Addr) (n cap : Nat) (S : Nat → Room) (w : World) (hn : n ≤ 1048576) (hz : RoomsAt w ao n S) :
    Calls Tryz.prog 102 #[.slice ao n cap] w fun e w' => ∃ g, e = .returned (.slice (some ⟨g, 0, none⟩) n n) ∧ w.heap.size ≤ g ∧
      w'.rowIs g 120 (n * 4) (roomCell S) ∧ Below w.heap.size w w' := by
  obtain ⟨i0, hi, hz0, hz1, hz2⟩ := info_parts Tryz.infoRoom
  go_enter Tryz.func102, Tryz.ntmps102
  go_wp2_with (first | (at_make; refine wpList_make_full _ rfl _ _ 59 rfl w.heap.size 120 i0 _ 4 Tryz.underlying59 hi hz0 hz1 .i64 .i64 _ _ n rfl rfl rfl rfl (by rw [hz2]; omega) (by unfold maxLen; omega) (Nat.le_refl _) ?_; intro w1 hown1 hgrow1))
  go_loopw [4] (fun i wr => ∃ k : Nat, k ≤ n ∧ i = .int .i64 k ∧ wr.rowIs w.heap.size 120 (n * 4) (roomCell (upto k S Room.zero)) ∧ Below w.heap.size w wr)
    (fun i _ => n - (intOf i).toNat)
  case atStart => exact ⟨0, Nat.zero_le _, rfl, (row_of_own hown1).congr (fun j hj => made_rooms n j hj), (Below.refl _ _).grown hgrow1 (Nat.le_refl _) (by simp)⟩
  case round =>
    obtain ⟨k, hk, rfl, hrow, hbel⟩ := hrel
    clear hown1 hgrow1
    by_cases hlt : k < n
    · obtain ⟨b, off, rfl, h0, h1, h2, h3⟩ := hz k (by omega)
      have hb := World.block_lt_of_cell? w _ h0
      have c0 := (hbel.cell (p := ⟨b, off + k * 4, none⟩) hb).trans h0
      have c1 := (hbel.cell (p := ⟨b, off + k * 4 + 1, none⟩) hb).trans h1
      have c2 := (hbel.cell (p := ⟨b, off + k * 4 + 2, none⟩) hb).trans h2
      have c3 := (hbel.cell (p := ⟨b, off + k * 4 + 3, none⟩) hb).trans h3
      clear h0 h1 h2 h3
      go_wp2_with (first | (go_at_call 137; refine (toRoom_any _ _ _ _ _).mono ?_; rintro e w2 ⟨rfl, hb2⟩; have hr2 := hrow.of_block (hb2.block _ hrow.lt); have o0 := hr2.cell (i := k * 4) (by omega); have o1 := hr2.cell (i := k * 4 + 1) (by omega); have o2 := hr2.cell (i := k * 4 + 2) (by omega); have o3 := hr2.cell (i := k * 4 + 3) (by omega); have f0 := hr2.frozen (k * 4); have f1 := hr2.frozen (k * 4 + 1); have f2 := hr2.frozen (k * 4 + 2); have f3 := hr2.frozen (k * 4 + 3)))
      go_roundw
      case rel =>
        refine ⟨k + 1, by omega, by go_num, ?_, ?_⟩
        · have := room_set (k := k) (S' := upto (k + 1) S Room.zero) hr2 (fun i h => upto_step _ _ _ _ h)
          simp only [upto_lt _ _ (Nat.lt_succ_self k)] at this
          exact this
        · exact (((((after hbel hb2).setCell (Nat.le_refl _) _).setCell (Nat.le_refl _) _).setCell (Nat.le_refl _) _).setCell (Nat.le_refl _) _)
      case measure => simp [intOf]; omega
    · go_wp2
      go_ret
      exact ⟨_, rfl, Nat.le_refl _, hrow.congr (fun j hj => by unfold roomCell; rw [upto_lt _ _ (by omega)]), hbel⟩
theorem eqRoomS_same (ao bo : Option Addr) (n c1 c2 : Nat) (S : Nat → Room) (w : World) (hn : n ≤ 2097152) (hx : RoomsAt w ao n S) (hy : RoomsAt w bo n S) :
    Calls Tryz.prog 131 #[.slice ao n c1, .slice bo n c2] w fun e w' => e = .returned (.bool true) ∧ Below w.heap.size w w' := by
  go_enter Tryz.func131, Tryz.ntmps131
  go_wp2
  go_loopw [5] (fun i wr => ∃ k : Nat, k ≤ n ∧ i = .int .i64 k ∧ Below w.heap.size w wr) (fun i _ => n - (intOf i).toNat)
  case atStart => exact ⟨0, Nat.zero_le _, rfl, Below.refl _ _⟩
  case round =>
    obtain ⟨k, hk, rfl, hbel⟩ := hrel
    by_cases hlt : k < n
    · obtain ⟨b, off, rfl, h0, h1, h2, h3⟩ := hx k (by omega)
      obtain ⟨b2, off2, rfl, g0, g1, g2, g3⟩ := hy k (by omega)
      have hb := World.block_lt_of_cell? w _ h0
      have hb2 := World.block_lt_of_cell? w _ g0
      have c0 := (hbel.cell (p := ⟨b, off + k * 4, none⟩) hb).trans h0
      have d0 := (hbel.cell (p := ⟨b2, off2 + k * 4, none⟩) hb2).trans g0
      have c1 := (hbel.cell (p := ⟨b, off + k * 4 + 1, none⟩) hb).trans h1
      have d1 := (hbel.cell (p := ⟨b2, off2 + k * 4 + 1, none⟩) hb2).trans g1
      have c2 := (hbel.cell (p := ⟨b, off + k * 4 + 2, none⟩) hb).trans h2
      have d2 := (hbel.cell (p := ⟨b2, off2 + k * 4 + 2, none⟩) hb2).trans g2
      have c3 := (hbel.cell (p := ⟨b, off + k * 4 + 3, none⟩) hb).trans h3
      have d3 := (hbel.cell (p := ⟨b2, off2 + k * 4 + 3, none⟩) hb2).trans g3
      clear h0 g0 h1 g1 h2 g2 h3 g3
      have hbw : b < wr.heap.size := Nat.lt_of_lt_of_le hb hbel.size
      have hbw2 : b2 < wr.heap.size := Nat.lt_of_lt_of_le hb2 hbel.size
      have i1 : (0 : Int) ≤ (k : Int) := by omega
      have i2 : (k : Int) < (n : Int) := by omega
      go_wp2
      go_region_held3 (fun w' => w'.cell? ⟨b, off + k * 4, none⟩ = some (.int .i64 (S k).who) ∧ w'.cell? ⟨b, off + k * 4 + 1, none⟩ = some (.int .i64 (S k).cab) ∧ w'.cell? ⟨b, off + k * 4 + 2, none⟩ = some (.int .i64 (S k).many) ∧ w'.cell? ⟨b, off + k * 4 + 3, none⟩ = some (.bool (S k).all) ∧ w'.cell? ⟨b2, off2 + k * 4, none⟩ = some (.int .i64 (S k).who) ∧ w'.cell? ⟨b2, off2 + k * 4 + 1, none⟩ = some (.int .i64 (S k).cab) ∧ w'.cell? ⟨b2, off2 + k * 4 + 2, none⟩ = some (.int .i64 (S k).many) ∧ w'.cell? ⟨b2, off2 + k * 4 + 3, none⟩ = some (.bool (S k).all))
        (first | exact ⟨c0, c1, c2, c3, d0, d1, d2, d3⟩ | exact ⟨(hbb.cell hbw).trans c0, (hbb.cell hbw).trans c1, (hbb.cell hbw).trans c2, (hbb.cell hbw).trans c3, (hbb.cell hbw2).trans d0, (hbb.cell hbw2).trans d1, (hbb.cell hbw2).trans d2, (hbb.cell hbw2).trans d3⟩)
        (first | (go_at_call 163; refine (eqRoom_same _ _ _ _ _).mono ?_; rintro e w2 ⟨rfl, hbb⟩))
      go_wp2
      go_roundw
      case rel => exact ⟨k + 1, by omega, by go_num, after hbel.drew hbb⟩
      case measure => simp [intOf]; omega
    · go_wp2
      go_ret
      exact ⟨rfl, hbel⟩
theorem szRoomS_any (ao : Option Addr) (n c : Nat) (L : Int) (w : World) (h0 : 0 ≤ L) (hL : L ≤ 1048576) (hn : n ≤ 1000000000000000) :
    Calls Tryz.prog 85 #[.slice ao n c, .int .i64 L] w fun e w' => ∃ r : Int, e = .returned (.int .i64 r) ∧ (r = -1 ∨ (0 ≤ r ∧ r ≤ L ∧ n ≤ 1048576)) ∧ Below w.heap.size w w' := by
  by_cases h : (n : Int) ≤ L
  · go_enter Tryz.func85, Tryz.ntmps85
    go_wp2
    go_ret
    exact ⟨_, rfl, .inr ⟨by omega, by omega, by omega⟩, Below.refl _ _⟩
  · go_enter Tryz.func85, Tryz.ntmps85
    go_wp2
    go_ret
    exact ⟨_, rfl, .inl rfl, Below.refl _ _⟩
end Go.Proofs.YtlelckbeoclhbaaGreat

namespace Go.Proofs.YtlelckbeoclhbaaGreat
open Go.RowKit
theorem toSeat_any (a0 : Int) (a1 : Int) (w : World) :
    Calls Tryz.prog 138 #[.agg #[.int .i64 a0, .int .i64 a1]] w fun e w' => e = .returned (.agg #[.int .i64 a0, .int .i64 a1]) ∧ Below w.heap.size w w' := by
  go_enter Tryz.func138, Tryz.ntmps138
  go_wp2
  exact bodyPost_ret (v := .agg #[.int .i64 a0, .int .i64 a1]) (by simp [results, Tryz.results138, go_sem]) rfl ⟨rfl, push (push (push (Below.refl _ _) _) _) _⟩
theorem eqSeat_same (a0 : Int) (a1 : Int) (w : World) :
    Calls Tryz.prog 164 #[.agg #[.int .i64 a0, .int .i64 a1], .agg #[.int .i64 a0, .int .i64 a1]] w fun e w' => e = .returned (.bool true) ∧ Below w.heap.size w w' := by
  go_enter Tryz.func164, Tryz.ntmps164
  go_wp2
  go_ret
  exact ⟨rfl, push (push (Below.refl _ _) _) _⟩
theorem toSeatS_any (ao : Option Addr) (n cap : Nat) (S : Nat → Seat) (w : World) (hn : n ≤ 1048576) (hz : SeatsAt w ao n S) :
    Calls Tryz.prog 103 #[.slice ao n cap] w fun e w' => ∃ g, e = .returned (.slice (some ⟨g, 0, none⟩) n n) ∧ w.heap.size ≤ g ∧
      w'.rowIs g 126 (n * 2) (seatCell S) ∧ Below w.heap.size w w' := by
  obtain ⟨i0, hi, hz0, hz1, hz2⟩ := info_parts Tryz.infoSeat
  go_enter Tryz.func103, Tryz.ntmps103
  go_wp2_with (first | (at_make; refine wpList_make_full _ rfl _ _ 60 rfl w.heap.size 126 i0 _ 2 Tryz.underlying60 hi hz0 hz1 .i64 .i64 _ _ n rfl rfl rfl rfl (by rw [hz2]; omega) (by unfold maxLen; omega) (Nat.le_refl _) ?_; intro w1 hown1 hgrow1))
  go_loopw [4] (fun i wr => ∃ k : Nat, k ≤ n ∧ i = .int .i64 k ∧ wr.rowIs w.heap.size 126 (n * 2) (seatCell (upto k S Seat.zero)) ∧ Below w.heap.size w wr)
    (fun i _ => n - (intOf i).toNat)
  case atStart => exact ⟨0, Nat.zero_le _, rfl, (row_of_own hown1).congr (fun j hj => made_seats n j hj), (Below.refl _ _).grown hgrow1 (Nat.le_refl _) (by simp)⟩
  case round =>
    obtain ⟨k, hk, rfl, hrow, hbel⟩ := hrel
    clear hown1 hgrow1
    by_cases hlt : k < n
    · obtain ⟨b, off, rfl, h0, h1⟩ := hz k (by omega)
      have hb := World.block_lt_of_cell? w _ h0
      have c0 := (hbel.cell (p := ⟨b, off + k * 2, none⟩) hb).trans h0
      have c1 := (hbel.cell (p := ⟨b, off + k * 2 + 1, none⟩) hb).trans h1
      clear h0 h1
      go_wp2_with (first | (go_at_call 138; refine (toSeat_any _ _ _).mono ?_; rintro e w2 ⟨rfl, hb2⟩; have hr2 := hrow.of_block (hb2.block _ hrow.lt); have o0 := hr2.cell (i := k * 2) (by omega); have o1 := hr2.cell (i := k * 2 + 1) (by omega); have f0 := hr2.frozen (k * 2); have f1 := hr2.frozen (k * 2 + 1)))
      go_roundw
      case rel =>
        refine ⟨k + 1, by omega, by go_num, ?_, ?_⟩
        · have := seat_set (k := k) (S' := upto (k + 1) S Seat.zero) hr2 (fun i h => upto_step _ _ _ _ h)
          simp only [upto_lt _ _ (Nat.lt_succ_self k)] at this
          exact this
        · exact (((after hbel hb2).setCell (Nat.le_refl _) _).setCell (Nat.le_refl _) _)
      case measure => simp [intOf]; omega
    · go_wp2
      go_ret
      exact ⟨_, rfl, Nat.le_refl _, hrow.congr (fun j hj => by unfold seatCell; rw [upto_lt _ _ (by omega)]), hbel⟩
theorem eqSeatS_same (ao bo : Option Addr) (n c1 c2 : Nat) (S : Nat → Seat) (w : World) (hn : n ≤ 2097152) (hx : SeatsAt w ao n S) (hy : SeatsAt w bo n S) :
    Calls Tryz.prog 132 #[.slice ao n c1, .slice bo n c2] w fun e w' => e = .returned (.bool true) ∧ Below w.heap.size w w' := by
  go_enter Tryz.func132, Tryz.ntmps132
  go_wp2
  go_loopw [5] (fun i wr => ∃ k : Nat, k ≤ n ∧ i = .int .i64 k ∧ Below w.heap.size w wr) (fun i _ => n - (intOf i).toNat)
  case atStart => exact ⟨0, Nat.zero_le _, rfl, Below.refl _ _⟩
  case round =>
    obtain ⟨k, hk, rfl, hbel⟩ := hrel
    by_cases hlt : k < n
    · obtain ⟨b, off, rfl, h0, h1⟩ := hx k (by omega)
      obtain ⟨b2, off2, rfl, g0, g1⟩ := hy k (by omega)
      have hb := World.block_lt_of_cell? w _ h0
      have hb2 := World.block_lt_of_cell? w _ g0
      have c0 := (hbel.cell (p := ⟨b, off + k * 2, none⟩) hb).trans h0
      have d0 := (hbel.cell (p := ⟨b2, off2 + k * 2, none⟩) hb2).trans g0
      have c1 := (hbel.cell (p := ⟨b, off + k * 2 + 1, none⟩) hb).trans h1
      have d1 := (hbel.cell (p := ⟨b2, off2 + k * 2 + 1, none⟩) hb2).trans g1
      clear h0 g0 h1 g1
      have hbw : b < wr.heap.size := Nat.lt_of_lt_of_le hb hbel.size
      have hbw2 : b2 < wr.heap.size := Nat.lt_of_lt_of_le hb2 hbel.size
      have i1 : (0 : Int) ≤ (k : Int) := by omega
      have i2 : (k : Int) < (n : Int) := by omega
      go_wp2
      go_region_held3 (fun w' => w'.cell? ⟨b, off + k * 2, none⟩ = some (.int .i64 (S k).who) ∧ w'.cell? ⟨b, off + k * 2 + 1, none⟩ = some (.int .i64 (S k).many) ∧ w'.cell? ⟨b2, off2 + k * 2, none⟩ = some (.int .i64 (S k).who) ∧ w'.cell? ⟨b2, off2 + k * 2 + 1, none⟩ = some (.int .i64 (S k).many))
        (first | exact ⟨c0, c1, d0, d1⟩ | exact ⟨(hbb.cell hbw).trans c0, (hbb.cell hbw).trans c1, (hbb.cell hbw2).trans d0, (hbb.cell hbw2).trans d1⟩)
        (first | (go_at_call 164; refine (eqSeat_same _ _ _).mono ?_; rintro e w2 ⟨rfl, hbb⟩))
      go_wp2
      go_roundw
      case rel => exact ⟨k + 1, by omega, by go_num, after hbel.drew hbb⟩
      case measure => simp [intOf]; omega
    · go_wp2
      go_ret
      exact ⟨rfl, hbel⟩
theorem szSeatS_any (ao : Option Addr) (n c : Nat) (L : Int) (w : World) (h0 : 0 ≤ L) (hL : L ≤ 1048576) (hn : n ≤ 1000000000000000) :
    Calls Tryz.prog 86 #[.slice ao n c, .int .i64 L] w fun e w' => ∃ r : Int, e = .returned (.int .i64 r) ∧ (r = -1 ∨ (0 ≤ r ∧ r ≤ L ∧ n ≤ 1048576)) ∧ Below w.heap.size w w' := by
  by_cases h : (n : Int) ≤ L
  · go_enter Tryz.func86, Tryz.ntmps86
    go_wp2
    go_ret
    exact ⟨_, rfl, .inr ⟨by omega, by omega, by omega⟩, Below.refl _ _⟩
  · go_enter Tryz.func86, Tryz.ntmps86
    go_wp2
    go_ret
    exact ⟨_, rfl, .inl rfl, Below.refl _ _⟩
end Go.Proofs.YtlelckbeoclhbaaGreat
