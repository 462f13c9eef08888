/-
  OWN TEXT: contracts of the laws' helpers over lists of sailings: szSailingS, toSailingS, eqSailingS.
-/
import Derived.Test.YtlnadbnoemlpeaaLSail
namespace Go.Proofs.Ytlnadbnoemlpeaa
open Go.RowKit

/-- All sailings' texts and lists have B places at most. -/
def ShortAll (N : Nat) (S : Nat → Sail) (B : Nat) : Prop := ∀ i, i < N → ShortS (S i) B

set_option maxHeartbeats 1600000 in
set_option maxRecDepth 100000 in
theorem szSailingS_le (ao : Option Addr) (N c : Nat) (S : Nat → Sail) (w : World) (hN : N ≤ 1000000000000000) (hs : ShortAll N S 1000000000000000) (hx : SailsAt w ao N S) :
    Calls Try.prog 4 #[.slice ao N c, .int .i64 1048576] w fun e w' => ∃ r : Int, e = .returned (.int .i64 r) ∧ (r = -1 ∨ (0 ≤ r ∧ r ≤ 1048576 ∧ N ≤ 1048576 ∧ ShortAll N S 1048576)) ∧ Below w.heap.size w w' := by
  have HS : Hid (ShortAll N S 1000000000000000) := hs
  clear hs
  by_cases hf : N ≤ 1048576
  · have d0 : decide ((1048576 : Int) - (N : Int) < 0) = false := by simp; omega
    go_enter Try.func4, Try.ntmps4
    go_wp2
    go_loopw [1, 5] (fun l i wr => ∃ (k : Nat) (L : Int), k ≤ N ∧ i = .int .i64 k ∧ l = .int .i64 L ∧ 0 ≤ L ∧ L ≤ 1048576 ∧ ShortAll k S 1048576 ∧ Below w.heap.size w wr) (fun _ i _ => N - (intOf i).toNat)
    case atStart => exact ⟨0, _, Nat.zero_le _, rfl, rfl, by omega, by omega, fun i hi => by omega, Below.refl _ _⟩
    case round =>
      obtain ⟨k, L, hk, rfl, rfl, l0, l1, hst, hbel⟩ := hrel
      have HT : Hid (ShortAll k S 1048576) := hst
      clear hst d0
      by_cases hlt : k < N
      · obtain ⟨b, off, la, lc, ca, cc, rfl, h0, h1, h2, h3, h4, h5, h6, h7, h8, h9, h10, h11⟩ := hx k hlt
        have hb := World.block_lt_of_cell? w _ h1
        have c0 := (hbel.cell (p := ⟨b, off + k * 8, none⟩) hb).trans h0
        have c1 := (hbel.cell (p := ⟨b, off + k * 8 + 1, none⟩) hb).trans h1
        have c2 := (hbel.cell (p := ⟨b, off + k * 8 + 2, none⟩) hb).trans h2
        have c3 := (hbel.cell (p := ⟨b, off + k * 8 + 3, none⟩) hb).trans h3
        have c4 := (hbel.cell (p := ⟨b, off + k * 8 + 4, none⟩) hb).trans h4
        have c5 := (hbel.cell (p := ⟨b, off + k * 8 + 5, none⟩) hb).trans h5
        have c6 := (hbel.cell (p := ⟨b, off + k * 8 + 6, none⟩) hb).trans h6
        have c7 := (hbel.cell (p := ⟨b, off + k * 8 + 7, none⟩) hb).trans h7
        obtain ⟨s1, s2, s3, s4⟩ := HS.out k hlt
        clear h0 h1 h2 h3 h4 h5 h6 h7 h8 h9 h10 h11
        go_wp2_with fail
        refine (szSailing_any _ _ _ _ _ _ _ _ _ _ _ _ L _ l0 l1 s1 s2 s3 s4).mono ?_
        rintro e w2 ⟨r, rfl, hr, hb3⟩
        rcases hr with rfl | ⟨r0, r1, r2, r3, r4, r5⟩
        · go_wp2
          go_ret
          exact ⟨_, rfl, .inl rfl, after hbel hb3⟩
        · have d1 : decide (r < 0) = false := by simpa using r0
          go_wp2
          go_roundw
          case rel =>
            refine ⟨k + 1, r, by omega, by go_num, rfl, r0, by omega, fun i hi => ?_, after hbel hb3⟩
            by_cases e : i = k
            · subst e; exact ⟨r2, r3, r4, r5⟩
            · exact HT.out i (by omega)
          case measure => simp [intOf]; omega
      · obtain rfl : k = N := by omega
        go_wp2
        go_ret
        exact ⟨_, rfl, .inr ⟨l0, l1, hf, HT.out⟩, hbel⟩
  · have d0 : decide ((1048576 : Int) - (N : Int) < 0) = true := by simp; omega
    go_enter Try.func4, Try.ntmps4
    go_wp2
    go_ret
    exact ⟨_, rfl, .inl rfl, Below.refl _ _⟩

theorem szSailingS_any (ao : Option Addr) (N c : Nat) (S : Nat → Sail) (w : World) (hN : N ≤ 1000000000000000) (hs : ShortAll N S 1000000000000000) (hx : SailsAt w ao N S) :
    Calls Try.prog 4 #[.slice ao N c, .int .i64 1048576] w fun e w' => ∃ r : Int, e = .returned (.int .i64 r) ∧ (r = -1 ∨ (0 ≤ r ∧ N ≤ 1048576 ∧ ShortAll N S 1048576)) ∧ Below w.heap.size w w' :=
  (szSailingS_le ao N c S w hN hs hx).mono fun _ _ ⟨r, e, hr, hb⟩ => ⟨r, e, hr.imp id (fun h => ⟨h.1, h.2.2⟩), hb⟩

theorem Try.infoSailing : (Try.prog.info? 47).map (fun i => (i.zero, i.size, i.bytes)) = some (some (.agg #[.int .i64 0, .string ⟨#[]⟩, .string ⟨#[]⟩, .int .i64 0, .int .i64 0, .slice none 0 0, .slice none 0 0, .int .i64 0]), 8, 112) := by kernel_rfl

set_option maxHeartbeats 1600000 in
set_option maxRecDepth 100000 in
/-- toSailingS: a copy of the sailings, each list in a row of its own. -/
theorem toSailingS_any (ao : Option Addr) (N cap : Nat) (S : Nat → Sail) (w : World) (hN : N ≤ 1048576) (hs : ShortAll N S 1048576) (hz : SailsAt w ao N S) :
    Calls Try.prog 6 #[.slice ao N cap] w fun e w' => ∃ g l c, e = .returned (.slice (some ⟨g, 0, none⟩) N N) ∧ SailsTo w' 47 77 80 N w.heap.size g N S l c ∧ Below w.heap.size w w' := by
  obtain ⟨i0, hi, hz0, hz1, hz2⟩ := info_parts Try.infoSailing
  have HS : Hid (ShortAll N S 1048576) := hs
  clear hs
  go_enter Try.func6, Try.ntmps6
  go_wp2_with (first | (at_make; refine wpList_make_full _ rfl _ _ 24 rfl w.heap.size 47 i0 _ 8 Try.underlying24 hi hz0 hz1 .i64 .i64 _ _ N rfl rfl rfl rfl (by rw [hz2]; omega) (by unfold maxLen; omega) (Nat.le_refl _) ?_; intro w1 hown1 hgrow1))
  go_loopw [4] (fun i wr => ∃ (k : Nat) (l c : Nat → Nat), k ≤ N ∧ i = .int .i64 k ∧ SailsTo wr 47 77 80 k w.heap.size w.heap.size N S l c ∧ Below w.heap.size w wr)
    (fun i _ => N - (intOf i).toNat)
  case atStart => exact ⟨0, fun _ => 0, fun _ => 0, Nat.zero_le _, rfl, ⟨(row_of_own hown1).congr (fun j hj => made_sails N j hj), Nat.le_refl _, fun i hi => by omega, fun i hi => by omega, fun i j _ hj => by omega⟩, (Below.refl _ _).grown hgrow1 (Nat.le_refl _) (by simp)⟩
  case round =>
    obtain ⟨k, l, c, hk, rfl, hrow, hbel⟩ := hrel
    clear hown1 hgrow1
    by_cases hlt : k < N
    · obtain ⟨b, off, la, lc, ca, cc, rfl, h0, h1, h2, h3, h4, h5, h6, h7, h8, h9, h10, h11⟩ := hz k hlt
      have hb := World.block_lt_of_cell? w _ h1
      have c0 := (hbel.cell (p := ⟨b, off + k * 8, none⟩) hb).trans h0
      have c1 := (hbel.cell (p := ⟨b, off + k * 8 + 1, none⟩) hb).trans h1
      have c2 := (hbel.cell (p := ⟨b, off + k * 8 + 2, none⟩) hb).trans h2
      have c3 := (hbel.cell (p := ⟨b, off + k * 8 + 3, none⟩) hb).trans h3
      have c4 := (hbel.cell (p := ⟨b, off + k * 8 + 4, none⟩) hb).trans h4
      have c5 := (hbel.cell (p := ⟨b, off + k * 8 + 5, none⟩) hb).trans h5
      have c6 := (hbel.cell (p := ⟨b, off + k * 8 + 6, none⟩) hb).trans h6
      have c7 := (hbel.cell (p := ⟨b, off + k * 8 + 7, none⟩) hb).trans h7
      obtain ⟨_, _, s3, s4⟩ := HS.out k hlt
      clear h0 h1 h2 h3 h4 h5 h6 h7 h10 h11
      go_wp2_with fail
      refine (toSailing_any _ _ _ _ _ _ _ _ _ _ _ _ (S k).la (S k).ca _ rfl rfl s3 s4 (h8.below hbel) (h9.below hbel)).mono ?_
      rintro e w2 ⟨a, b', rfl, ga, gab, ra, rb, hb2⟩
      have hr2 := hrow.below hb2
      have o0 := hr2.row.cell (i := k * 8) (by omega)
      have o1 := hr2.row.cell (i := k * 8 + 1) (by omega)
      have o2 := hr2.row.cell (i := k * 8 + 2) (by omega)
      have o3 := hr2.row.cell (i := k * 8 + 3) (by omega)
      have o4 := hr2.row.cell (i := k * 8 + 4) (by omega)
      have o5 := hr2.row.cell (i := k * 8 + 5) (by omega)
      have o6 := hr2.row.cell (i := k * 8 + 6) (by omega)
      have o7 := hr2.row.cell (i := k * 8 + 7) (by omega)
      have f0 := hr2.row.frozen (k * 8)
      have f1 := hr2.row.frozen (k * 8 + 1)
      have f2 := hr2.row.frozen (k * 8 + 2)
      have f3 := hr2.row.frozen (k * 8 + 3)
      have f4 := hr2.row.frozen (k * 8 + 4)
      have f5 := hr2.row.frozen (k * 8 + 5)
      have f6 := hr2.row.frozen (k * 8 + 6)
      have f7 := hr2.row.frozen (k * 8 + 7)
      clear c0 c1 c2 c3 c4 c5 c6 c7 h8 h9
      go_wp2
      go_roundw
      case rel =>
        have hg := hrow.row.lt
        have key := hr2.step (by omega) gab (fun i hi => by have := (hrow.cabins i hi).2.lt; omega) ra rb
        unfold set8 whole at key
        exact ⟨k + 1, _, _, by omega, by go_num, key, (((((((((after hbel hb2).setCell (Nat.le_refl _) _).setCell (Nat.le_refl _) _).setCell (Nat.le_refl _) _).setCell (Nat.le_refl _) _).setCell (Nat.le_refl _) _).setCell (Nat.le_refl _) _).setCell (Nat.le_refl _) _).setCell (Nat.le_refl _) _)⟩
      case measure => simp [intOf]; omega
    · obtain rfl : k = N := by omega
      go_wp2
      go_ret
      exact ⟨_, l, c, rfl, hrow, hbel⟩

set_option maxHeartbeats 1600000 in
set_option maxRecDepth 100000 in
/-- eqSailingS at two lists that are one. -/
theorem eqSailingS_same (ao bo : Option Addr) (N c1 c2 : Nat) (S : Nat → Sail) (w : World) (hN : N ≤ 1048576) (hs : ShortAll N S 1048576) (hx : SailsAt w ao N S) (hy : SailsAt w bo N S) :
    Calls Try.prog 9 #[.slice ao N c1, .slice bo N c2] w fun e w' => e = .returned (.bool true) ∧ Below w.heap.size w w' := by
  have HS : Hid (ShortAll N S 1048576) := hs
  clear hs
  go_enter Try.func9, Try.ntmps9
  go_wp2
  go_loopw [5] (fun i wr => ∃ k : Nat, k ≤ N ∧ i = .int .i64 k ∧ Below w.heap.size w wr) (fun i _ => N - (intOf i).toNat)
  case atStart => exact ⟨0, Nat.zero_le _, rfl, Below.refl _ _⟩
  case round =>
    obtain ⟨k, hk, rfl, hbel⟩ := hrel
    by_cases hlt : k < N
    · obtain ⟨b, off, la, lc, ca, cc, rfl, h0, h1, h2, h3, h4, h5, h6, h7, h8, h9, _, _⟩ := hx k hlt
      obtain ⟨b2, off2, la2, lc2, ca2, cc2, rfl, g0, g1, g2, g3, g4, g5, g6, g7, g8, g9, _, _⟩ := hy k hlt
      have hb := World.block_lt_of_cell? w _ h1
      have hb2 := World.block_lt_of_cell? w _ g1
      have a0 := (hbel.cell (p := ⟨b, off + k * 8, none⟩) hb).trans h0
      have a1 := (hbel.cell (p := ⟨b, off + k * 8 + 1, none⟩) hb).trans h1
      have a2 := (hbel.cell (p := ⟨b, off + k * 8 + 2, none⟩) hb).trans h2
      have a3 := (hbel.cell (p := ⟨b, off + k * 8 + 3, none⟩) hb).trans h3
      have a4 := (hbel.cell (p := ⟨b, off + k * 8 + 4, none⟩) hb).trans h4
      have a5 := (hbel.cell (p := ⟨b, off + k * 8 + 5, none⟩) hb).trans h5
      have a6 := (hbel.cell (p := ⟨b, off + k * 8 + 6, none⟩) hb).trans h6
      have a7 := (hbel.cell (p := ⟨b, off + k * 8 + 7, none⟩) hb).trans h7
      have d0 := (hbel.cell (p := ⟨b2, off2 + k * 8, none⟩) hb2).trans g0
      have d1 := (hbel.cell (p := ⟨b2, off2 + k * 8 + 1, none⟩) hb2).trans g1
      have d2 := (hbel.cell (p := ⟨b2, off2 + k * 8 + 2, none⟩) hb2).trans g2
      have d3 := (hbel.cell (p := ⟨b2, off2 + k * 8 + 3, none⟩) hb2).trans g3
      have d4 := (hbel.cell (p := ⟨b2, off2 + k * 8 + 4, none⟩) hb2).trans g4
      have d5 := (hbel.cell (p := ⟨b2, off2 + k * 8 + 5, none⟩) hb2).trans g5
      have d6 := (hbel.cell (p := ⟨b2, off2 + k * 8 + 6, none⟩) hb2).trans g6
      have d7 := (hbel.cell (p := ⟨b2, off2 + k * 8 + 7, none⟩) hb2).trans g7
      obtain ⟨_, _, s3, s4⟩ := HS.out k hlt
      have h8 := h8.below hbel.drew
      have h9 := h9.below hbel.drew
      have g8 := g8.below hbel.drew
      have g9 := g9.below hbel.drew
      clear h0 h1 h2 h3 h4 h5 h6 h7 g0 g1 g2 g3 g4 g5 g6 g7
      have hbw : b < wr.heap.size := Nat.lt_of_lt_of_le hb hbel.size
      have hbw2 : b2 < wr.heap.size := Nat.lt_of_lt_of_le hb2 hbel.size
      have i1 : (0 : Int) ≤ (k : Int) := by omega
      have i2 : (k : Int) < (N : Int) := by omega
      go_wp2
      go_region_held3 (fun w' => (w'.cell? ⟨b, off + k * 8, none⟩ = some (.int .i64 (S k).id) ∧ w'.cell? ⟨b, off + k * 8 + 1, none⟩ = some (.string (S k).fr) ∧ w'.cell? ⟨b, off + k * 8 + 2, none⟩ = some (.string (S k).dst) ∧ w'.cell? ⟨b, off + k * 8 + 3, none⟩ = some (.int .i64 (S k).dep) ∧ w'.cell? ⟨b, off + k * 8 + 4, none⟩ = some (.int .i64 (S k).arr) ∧ w'.cell? ⟨b, off + k * 8 + 5, none⟩ = some (.slice la (S k).la.n lc) ∧ w'.cell? ⟨b, off + k * 8 + 6, none⟩ = some (.slice ca (S k).ca.n cc) ∧ w'.cell? ⟨b, off + k * 8 + 7, none⟩ = some (.int .i64 (S k).most)) ∧
          (w'.cell? ⟨b2, off2 + k * 8, none⟩ = some (.int .i64 (S k).id) ∧ w'.cell? ⟨b2, off2 + k * 8 + 1, none⟩ = some (.string (S k).fr) ∧ w'.cell? ⟨b2, off2 + k * 8 + 2, none⟩ = some (.string (S k).dst) ∧ w'.cell? ⟨b2, off2 + k * 8 + 3, none⟩ = some (.int .i64 (S k).dep) ∧ w'.cell? ⟨b2, off2 + k * 8 + 4, none⟩ = some (.int .i64 (S k).arr) ∧ w'.cell? ⟨b2, off2 + k * 8 + 5, none⟩ = some (.slice la2 (S k).la.n lc2) ∧ w'.cell? ⟨b2, off2 + k * 8 + 6, none⟩ = some (.slice ca2 (S k).ca.n cc2) ∧ w'.cell? ⟨b2, off2 + k * 8 + 7, none⟩ = some (.int .i64 (S k).most)))
        (first | exact ⟨⟨a0, a1, a2, a3, a4, a5, a6, a7⟩, ⟨d0, d1, d2, d3, d4, d5, d6, d7⟩⟩ | exact ⟨⟨(hbb.cell hbw).trans a0, (hbb.cell hbw).trans a1, (hbb.cell hbw).trans a2, (hbb.cell hbw).trans a3, (hbb.cell hbw).trans a4, (hbb.cell hbw).trans a5, (hbb.cell hbw).trans a6, (hbb.cell hbw).trans a7⟩, ⟨(hbb.cell hbw2).trans d0, (hbb.cell hbw2).trans d1, (hbb.cell hbw2).trans d2, (hbb.cell hbw2).trans d3, (hbb.cell hbw2).trans d4, (hbb.cell hbw2).trans d5, (hbb.cell hbw2).trans d6, (hbb.cell hbw2).trans d7⟩⟩)
        (first | (go_at_call 22; refine (eqSailing_same _ _ _ _ _ _ _ _ _ _ _ _ _ _ _ _ (S k).la (S k).ca _ rfl rfl s3 s4 h8 h9 g8 g9).mono ?_; rintro e w2 ⟨rfl, hbb⟩))
      go_wp2
      go_roundw
      case rel => exact ⟨k + 1, by omega, by go_num, after hbel.drew hbb⟩
      case measure => simp [intOf]; omega
    · go_wp2
      go_ret
      exact ⟨rfl, hbel⟩

end Go.Proofs.Ytlnadbnoemlpeaa
