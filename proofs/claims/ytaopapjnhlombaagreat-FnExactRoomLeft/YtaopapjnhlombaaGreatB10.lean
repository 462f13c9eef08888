/-
  OWN TEXT: LBookings, KitOff, PlainF.
-/
import Derived.Test.YtaopapjnhlombaaGreatB09
import Derived.Test.YtaopapjnhlombaaGreatB01
import Derived.Test.YtaopapjnhlombaaGreatB06
import Derived.Test.YtaopapjnhlombaaGreatB08
namespace Go.Proofs.YtaopapjnhlombaaGreat
open Go.RowKit

set_option maxHeartbeats 1600000 in
set_option maxRecDepth 100000 in
theorem szBookingS_any (ao : Option Addr) (N c : Nat) (S : Nat → Book) (L0 : Int) (w : World) (h0 : 0 ≤ L0) (hL0 : L0 ≤ 1048576) (hN : N ≤ 1000000000000000) (hs : BooksShort N S 1000000000000000) (hx : BooksAt w ao N S) :
    Calls Tryz.prog 21 #[.slice ao N c, .int .i64 L0] w fun e w' => ∃ r : Int, e = .returned (.int .i64 r) ∧ (r = -1 ∨ (0 ≤ r ∧ r ≤ L0 ∧ N ≤ 1048576 ∧ BooksShort N S 1048576)) ∧ Below w.heap.size w w' := by
  have HS : Hid (BooksShort N S 1000000000000000) := hs
  have HX : Hid (BooksAt w ao N S) := hx
  clear hs hx
  by_cases hf : (N : Int) ≤ L0
  · have d0 : decide (L0 - (N : Int) < 0) = false := by simp; omega
    go_enter Tryz.func21, Tryz.ntmps21
    go_wp2
    go_loopw [1, 5] (fun l i wr => ∃ (k : Nat) (L : Int), k ≤ N ∧ i = .int .i64 k ∧ l = .int .i64 L ∧ 0 ≤ L ∧ L ≤ L0 ∧ BooksShort k S 1048576 ∧ Below w.heap.size w wr) (fun _ i _ => N - (intOf i).toNat)
    case atStart => exact ⟨0, _, Nat.zero_le _, rfl, rfl, by omega, by omega, fun i hi => by omega, Below.refl _ _⟩
    case round =>
      obtain ⟨k, L, hk, rfl, rfl, l0, l1, hst, hbel⟩ := hrel
      have HT : Hid (BooksShort k S 1048576) := hst
      clear hst d0
      by_cases hlt : k < N
      · obtain ⟨C, hC, hI⟩ := HX.out
        obtain ⟨b, off, rfl, hc⟩ := hC k hlt
        have HIK : Hid (Book.Is w (C k) (S k)) := hI k hlt
        obtain ⟨alg, clg, eC, hlg, slg⟩ := hI k hlt
        have hlt' : b < w.heap.size := World.block_lt_of_cell? w _ (hc 0 (by decide))
        have c0 : wr.cell? ⟨b, off + k * 13, none⟩ = some (.int .i64 (S k).name) := (hbel.cell (p := ⟨b, off + k * 13, none⟩) hlt').trans (by have := hc 0 (by decide); rw [eC] at this; exact this)
        have c1 : wr.cell? ⟨b, off + k * 13 + 1, none⟩ = some (.int .i64 (S k).who) := (hbel.cell (p := ⟨b, off + k * 13 + 1, none⟩) hlt').trans (by have := hc 1 (by decide); rw [eC] at this; exact this)
        have c2 : wr.cell? ⟨b, off + k * 13 + 2, none⟩ = some (.string (S k).own) := (hbel.cell (p := ⟨b, off + k * 13 + 2, none⟩) hlt').trans (by have := hc 2 (by decide); rw [eC] at this; exact this)
        have c3 : wr.cell? ⟨b, off + k * 13 + 3, none⟩ = some (.slice alg (S k).lgn clg) := (hbel.cell (p := ⟨b, off + k * 13 + 3, none⟩) hlt').trans (by have := hc 3 (by decide); rw [eC] at this; exact this)
        have c4 : wr.cell? ⟨b, off + k * 13 + 4, none⟩ = some (.int .i64 (S k).pe) := (hbel.cell (p := ⟨b, off + k * 13 + 4, none⟩) hlt').trans (by have := hc 4 (by decide); rw [eC] at this; exact this)
        have c5 : wr.cell? ⟨b, off + k * 13 + 5, none⟩ = some (.int .i64 (S k).len) := (hbel.cell (p := ⟨b, off + k * 13 + 5, none⟩) hlt').trans (by have := hc 5 (by decide); rw [eC] at this; exact this)
        have c6 : wr.cell? ⟨b, off + k * 13 + 6, none⟩ = some (.int .i64 (S k).hei) := (hbel.cell (p := ⟨b, off + k * 13 + 6, none⟩) hlt').trans (by have := hc 6 (by decide); rw [eC] at this; exact this)
        have c7 : wr.cell? ⟨b, off + k * 13 + 7, none⟩ = some (.int .i64 (S k).cl) := (hbel.cell (p := ⟨b, off + k * 13 + 7, none⟩) hlt').trans (by have := hc 7 (by decide); rw [eC] at this; exact this)
        have c8 : wr.cell? ⟨b, off + k * 13 + 8, none⟩ = some (.bool (S k).all) := (hbel.cell (p := ⟨b, off + k * 13 + 8, none⟩) hlt').trans (by have := hc 8 (by decide); rw [eC] at this; exact this)
        have c9 : wr.cell? ⟨b, off + k * 13 + 9, none⟩ = some (.int .i64 (S k).be) := (hbel.cell (p := ⟨b, off + k * 13 + 9, none⟩) hlt').trans (by have := hc 9 (by decide); rw [eC] at this; exact this)
        have c10 : wr.cell? ⟨b, off + k * 13 + 10, none⟩ = some (.int .i64 (S k).state) := (hbel.cell (p := ⟨b, off + k * 13 + 10, none⟩) hlt').trans (by have := hc 10 (by decide); rw [eC] at this; exact this)
        have c11 : wr.cell? ⟨b, off + k * 13 + 11, none⟩ = some (.int .i64 (S k).unt) := (hbel.cell (p := ⟨b, off + k * 13 + 11, none⟩) hlt').trans (by have := hc 11 (by decide); rw [eC] at this; exact this)
        have c12 : wr.cell? ⟨b, off + k * 13 + 12, none⟩ = some (.int .i64 (S k).price) := (hbel.cell (p := ⟨b, off + k * 13 + 12, none⟩) hlt').trans (by have := hc 12 (by decide); rw [eC] at this; exact this)
        have HIW : Hid (Book.Is wr [.int .i64 (S k).name, .int .i64 (S k).who, .string (S k).own, .slice alg (S k).lgn clg, .int .i64 (S k).pe, .int .i64 (S k).len, .int .i64 (S k).hei, .int .i64 (S k).cl, .bool (S k).all, .int .i64 (S k).be, .int .i64 (S k).state, .int .i64 (S k).unt, .int .i64 (S k).price] (S k)) := by show Book.Is wr [.int .i64 (S k).name, .int .i64 (S k).who, .string (S k).own, .slice alg (S k).lgn clg, .int .i64 (S k).pe, .int .i64 (S k).len, .int .i64 (S k).hei, .int .i64 (S k).cl, .bool (S k).all, .int .i64 (S k).be, .int .i64 (S k).state, .int .i64 (S k).unt, .int .i64 (S k).price] (S k); rw [← eC]; exact HIK.out.below hbel
        have HSK : Hid (Book.Short (S k) 1000000000000000) := HS.out k hlt
        clear hC hI hc eC HIK hlg slg
        go_wp2_with fail
        refine (szBooking_any [.int .i64 (S k).name, .int .i64 (S k).who, .string (S k).own, .slice alg (S k).lgn clg, .int .i64 (S k).pe, .int .i64 (S k).len, .int .i64 (S k).hei, .int .i64 (S k).cl, .bool (S k).all, .int .i64 (S k).be, .int .i64 (S k).state, .int .i64 (S k).unt, .int .i64 (S k).price] (S k) L _ l0 (by omega) HSK.out HIW.out).mono ?_
        rintro e w2 ⟨r, rfl, hr, hb3⟩
        rcases hr with rfl | ⟨r0, r1, r2⟩
        · go_wp2
          go_ret
          exact ⟨_, rfl, .inl rfl, after hbel hb3⟩
        · have d1 : decide (r < 0) = false := by simpa using r0
          go_wp2
          go_roundw
          case rel =>
            refine ⟨k + 1, r, by omega, by go_num, rfl, r0, by omega, fun i hi => ?_, after hbel hb3⟩
            by_cases e : i = k
            · subst e; exact r2
            · exact HT.out i (by omega)
          case measure => simp [intOf]; omega
      · obtain rfl : k = N := by omega
        go_wp2
        go_ret
        exact ⟨_, rfl, .inr ⟨l0, l1, by omega, HT.out⟩, hbel⟩
  · have d0 : decide (L0 - (N : Int) < 0) = true := by simp; omega
    go_enter Tryz.func21, Tryz.ntmps21
    go_wp2
    go_ret
    exact ⟨_, rfl, .inl rfl, Below.refl _ _⟩

theorem Tryz.infoBooking : (Tryz.prog.info? 87).map (fun i => (i.zero, i.size, i.bytes)) = some (some (.agg #[.int .i64 0, .int .i64 0, .string ⟨#[]⟩, .slice none 0 0, .int .i64 0, .int .i64 0, .int .i64 0, .int .i64 0, .bool false, .int .i64 0, .int .i64 0, .int .i64 0, .int .i64 0]), 13, 128) := by kernel_rfl

set_option maxHeartbeats 1600000 in
set_option maxRecDepth 100000 in
/-- toBookingS: a copy, its lists in new memory behind its own row. -/
theorem toBookingS_any (ao : Option Addr) (N cap : Nat) (S : Nat → Book) (w : World) (hN : N ≤ 1048576) (hs : BooksShort N S 1048576) (hz : BooksAt w ao N S) :
    Calls Tryz.prog 29 #[.slice ao N cap] w fun e w' => ∃ g C, e = .returned (.slice (some ⟨g, 0, none⟩) N N) ∧ BooksTo w' N w.heap.size w'.heap.size g N S C ∧ Below w.heap.size w w' := by
  obtain ⟨i0, hi, hz0, hz1, hz2⟩ := info_parts Tryz.infoBooking
  have HS : Hid (BooksShort N S 1048576) := hs
  have HX : Hid (BooksAt w ao N S) := hz
  clear hs hz
  go_enter Tryz.func29, Tryz.ntmps29
  go_wp2_with (first | (at_make; refine wpList_make_full _ rfl _ _ 33 rfl w.heap.size 87 i0 _ 13 Tryz.underlying33 hi hz0 hz1 .i64 .i64 _ _ N rfl rfl rfl rfl (by rw [hz2]; omega) (by unfold maxLen; omega) (Nat.le_refl _) ?_; intro w1 hown1 hgrow1))
  go_loopw [4] (fun i wr => ∃ (k : Nat) (C : Nat → List Value), k ≤ N ∧ i = .int .i64 k ∧ BooksTo wr k w.heap.size wr.heap.size w.heap.size N S C ∧ Below w.heap.size w wr)
    (fun i _ => N - (intOf i).toNat)
  case atStart => exact ⟨0, fun _ => [], Nat.zero_le _, rfl, ⟨(row_of_own hown1).congr (fun j hj => (made_recs (z := #[.int .i64 0, .int .i64 0, .string ⟨#[]⟩, .slice none 0 0, .int .i64 0, .int .i64 0, .int .i64 0, .int .i64 0, .bool false, .int .i64 0, .int .i64 0, .int .i64 0, .int .i64 0]) (sz := 13) rfl N j hj).trans (by unfold recCell; rw [upto_ge _ _ (by omega)])), Nat.le_refl _, (row_of_own hown1).lt, fun i hi => by omega⟩, (Below.refl _ _).grown hgrow1 (Nat.le_refl _) (by simp)⟩
  case round =>
    obtain ⟨k, C, hk, rfl, hrow, hbel⟩ := hrel
    clear hown1 hgrow1
    by_cases hlt : k < N
    · obtain ⟨E, hE, hI⟩ := HX.out
      obtain ⟨b, off, rfl, hc⟩ := hE k hlt
      have HIK : Hid (Book.Is w (E k) (S k)) := hI k hlt
      obtain ⟨alg, clg, eC, hlg, slg⟩ := hI k hlt
      have hlt' : b < w.heap.size := World.block_lt_of_cell? w _ (hc 0 (by decide))
      have c0 : wr.cell? ⟨b, off + k * 13, none⟩ = some (.int .i64 (S k).name) := (hbel.cell (p := ⟨b, off + k * 13, none⟩) hlt').trans (by have := hc 0 (by decide); rw [eC] at this; exact this)
      have c1 : wr.cell? ⟨b, off + k * 13 + 1, none⟩ = some (.int .i64 (S k).who) := (hbel.cell (p := ⟨b, off + k * 13 + 1, none⟩) hlt').trans (by have := hc 1 (by decide); rw [eC] at this; exact this)
      have c2 : wr.cell? ⟨b, off + k * 13 + 2, none⟩ = some (.string (S k).own) := (hbel.cell (p := ⟨b, off + k * 13 + 2, none⟩) hlt').trans (by have := hc 2 (by decide); rw [eC] at this; exact this)
      have c3 : wr.cell? ⟨b, off + k * 13 + 3, none⟩ = some (.slice alg (S k).lgn clg) := (hbel.cell (p := ⟨b, off + k * 13 + 3, none⟩) hlt').trans (by have := hc 3 (by decide); rw [eC] at this; exact this)
      have c4 : wr.cell? ⟨b, off + k * 13 + 4, none⟩ = some (.int .i64 (S k).pe) := (hbel.cell (p := ⟨b, off + k * 13 + 4, none⟩) hlt').trans (by have := hc 4 (by decide); rw [eC] at this; exact this)
      have c5 : wr.cell? ⟨b, off + k * 13 + 5, none⟩ = some (.int .i64 (S k).len) := (hbel.cell (p := ⟨b, off + k * 13 + 5, none⟩) hlt').trans (by have := hc 5 (by decide); rw [eC] at this; exact this)
      have c6 : wr.cell? ⟨b, off + k * 13 + 6, none⟩ = some (.int .i64 (S k).hei) := (hbel.cell (p := ⟨b, off + k * 13 + 6, none⟩) hlt').trans (by have := hc 6 (by decide); rw [eC] at this; exact this)
      have c7 : wr.cell? ⟨b, off + k * 13 + 7, none⟩ = some (.int .i64 (S k).cl) := (hbel.cell (p := ⟨b, off + k * 13 + 7, none⟩) hlt').trans (by have := hc 7 (by decide); rw [eC] at this; exact this)
      have c8 : wr.cell? ⟨b, off + k * 13 + 8, none⟩ = some (.bool (S k).all) := (hbel.cell (p := ⟨b, off + k * 13 + 8, none⟩) hlt').trans (by have := hc 8 (by decide); rw [eC] at this; exact this)
      have c9 : wr.cell? ⟨b, off + k * 13 + 9, none⟩ = some (.int .i64 (S k).be) := (hbel.cell (p := ⟨b, off + k * 13 + 9, none⟩) hlt').trans (by have := hc 9 (by decide); rw [eC] at this; exact this)
      have c10 : wr.cell? ⟨b, off + k * 13 + 10, none⟩ = some (.int .i64 (S k).state) := (hbel.cell (p := ⟨b, off + k * 13 + 10, none⟩) hlt').trans (by have := hc 10 (by decide); rw [eC] at this; exact this)
      have c11 : wr.cell? ⟨b, off + k * 13 + 11, none⟩ = some (.int .i64 (S k).unt) := (hbel.cell (p := ⟨b, off + k * 13 + 11, none⟩) hlt').trans (by have := hc 11 (by decide); rw [eC] at this; exact this)
      have c12 : wr.cell? ⟨b, off + k * 13 + 12, none⟩ = some (.int .i64 (S k).price) := (hbel.cell (p := ⟨b, off + k * 13 + 12, none⟩) hlt').trans (by have := hc 12 (by decide); rw [eC] at this; exact this)
      have HIW : Hid (Book.Is wr [.int .i64 (S k).name, .int .i64 (S k).who, .string (S k).own, .slice alg (S k).lgn clg, .int .i64 (S k).pe, .int .i64 (S k).len, .int .i64 (S k).hei, .int .i64 (S k).cl, .bool (S k).all, .int .i64 (S k).be, .int .i64 (S k).state, .int .i64 (S k).unt, .int .i64 (S k).price] (S k)) := by show Book.Is wr [.int .i64 (S k).name, .int .i64 (S k).who, .string (S k).own, .slice alg (S k).lgn clg, .int .i64 (S k).pe, .int .i64 (S k).len, .int .i64 (S k).hei, .int .i64 (S k).cl, .bool (S k).all, .int .i64 (S k).be, .int .i64 (S k).state, .int .i64 (S k).unt, .int .i64 (S k).price] (S k); rw [← eC]; exact HIK.out.below hbel
      have HSK : Hid (Book.Short (S k) 1048576) := HS.out k hlt
      have HROW : Hid (BooksTo wr k w.heap.size wr.heap.size w.heap.size N S C) := hrow
      clear hE hI hc eC HIK hrow hlg slg
      go_wp2_with fail
      refine (toBooking_any [.int .i64 (S k).name, .int .i64 (S k).who, .string (S k).own, .slice alg (S k).lgn clg, .int .i64 (S k).pe, .int .i64 (S k).len, .int .i64 (S k).hei, .int .i64 (S k).cl, .bool (S k).all, .int .i64 (S k).be, .int .i64 (S k).state, .int .i64 (S k).unt, .int .i64 (S k).price] (S k) _ HSK.out HIW.out).mono ?_
      rintro e w2 ⟨cs', rfl, hin, hb2⟩
      have HIN : Hid (Book.In w2 wr.heap.size w2.heap.size cs' (S k)) := hin
      obtain ⟨llg, rfl, _⟩ := hin
      unfold whole
      have hr2 := (HROW.out.below hb2).wide (Nat.le_refl _) hb2.size
      have hsz := HROW.out.ghi
      clear c0 c1 c2 c3 c4 c5 c6 c7 c8 c9 c10 c11 c12
      have o0 := hr2.row.cell (i := k * 13) (by omega)
      have f0 := hr2.row.frozen (k * 13)
      have o1 := hr2.row.cell (i := k * 13 + 1) (by omega)
      have f1 := hr2.row.frozen (k * 13 + 1)
      have o2 := hr2.row.cell (i := k * 13 + 2) (by omega)
      have f2 := hr2.row.frozen (k * 13 + 2)
      have o3 := hr2.row.cell (i := k * 13 + 3) (by omega)
      have f3 := hr2.row.frozen (k * 13 + 3)
      have o4 := hr2.row.cell (i := k * 13 + 4) (by omega)
      have f4 := hr2.row.frozen (k * 13 + 4)
      have o5 := hr2.row.cell (i := k * 13 + 5) (by omega)
      have f5 := hr2.row.frozen (k * 13 + 5)
      have o6 := hr2.row.cell (i := k * 13 + 6) (by omega)
      have f6 := hr2.row.frozen (k * 13 + 6)
      have o7 := hr2.row.cell (i := k * 13 + 7) (by omega)
      have f7 := hr2.row.frozen (k * 13 + 7)
      have o8 := hr2.row.cell (i := k * 13 + 8) (by omega)
      have f8 := hr2.row.frozen (k * 13 + 8)
      have o9 := hr2.row.cell (i := k * 13 + 9) (by omega)
      have f9 := hr2.row.frozen (k * 13 + 9)
      have o10 := hr2.row.cell (i := k * 13 + 10) (by omega)
      have f10 := hr2.row.frozen (k * 13 + 10)
      have o11 := hr2.row.cell (i := k * 13 + 11) (by omega)
      have f11 := hr2.row.frozen (k * 13 + 11)
      have o12 := hr2.row.cell (i := k * 13 + 12) (by omega)
      have f12 := hr2.row.frozen (k * 13 + 12)
      have HR2 : Hid (BooksTo w2 k w.heap.size w2.heap.size w.heap.size N S C) := hr2
      clear hr2
      go_wp2
      go_roundw
      case rel =>
        clear o0 f0 o1 f1 o2 f2 o3 f3 o4 f4 o5 f5 o6 f6 o7 f7 o8 f8 o9 f9 o10 f10 o11 f11 o12 f12
        obtain ⟨W, hW⟩ : ∃ W, W = setFrom w2 w.heap.size (k * 13) [.int .i64 (S k).name, .int .i64 (S k).who, .string (S k).own, .slice (some ⟨llg, 0, none⟩) (S k).lgn (S k).lgn, .int .i64 (S k).pe, .int .i64 (S k).len, .int .i64 (S k).hei, .int .i64 (S k).cl, .bool (S k).all, .int .i64 (S k).be, .int .i64 (S k).state, .int .i64 (S k).unt, .int .i64 (S k).price] := ⟨_, rfl⟩
        have hC : W = (((((((((((((w2.setCell ⟨w.heap.size, k * 13, none⟩ (.int .i64 (S k).name)).setCell ⟨w.heap.size, k * 13 + 1, none⟩ (.int .i64 (S k).who)).setCell ⟨w.heap.size, k * 13 + 2, none⟩ (.string (S k).own)).setCell ⟨w.heap.size, k * 13 + 3, none⟩ (.slice (some ⟨llg, 0, none⟩) (S k).lgn (S k).lgn)).setCell ⟨w.heap.size, k * 13 + 4, none⟩ (.int .i64 (S k).pe)).setCell ⟨w.heap.size, k * 13 + 5, none⟩ (.int .i64 (S k).len)).setCell ⟨w.heap.size, k * 13 + 6, none⟩ (.int .i64 (S k).hei)).setCell ⟨w.heap.size, k * 13 + 7, none⟩ (.int .i64 (S k).cl)).setCell ⟨w.heap.size, k * 13 + 8, none⟩ (.bool (S k).all)).setCell ⟨w.heap.size, k * 13 + 9, none⟩ (.int .i64 (S k).be)).setCell ⟨w.heap.size, k * 13 + 10, none⟩ (.int .i64 (S k).state)).setCell ⟨w.heap.size, k * 13 + 11, none⟩ (.int .i64 (S k).unt)).setCell ⟨w.heap.size, k * 13 + 12, none⟩ (.int .i64 (S k).price)) := by rw [hW]; rfl
        rw [← hC]
        clear hC
        have hk2 : Kept w2 W (fun x => x = w.heap.size) := by rw [hW]; exact setFrom_kept (S := fun x => x = w.heap.size) rfl _ _ _ (Kept.refl _ _)
        have hszW : W.heap.size = w2.heap.size := by rw [hW, setFrom_size]
        refine ⟨k + 1, fun i => if i = k then [.int .i64 (S k).name, .int .i64 (S k).who, .string (S k).own, .slice (some ⟨llg, 0, none⟩) (S k).lgn (S k).lgn, .int .i64 (S k).pe, .int .i64 (S k).len, .int .i64 (S k).hei, .int .i64 (S k).cl, .bool (S k).all, .int .i64 (S k).be, .int .i64 (S k).state, .int .i64 (S k).unt, .int .i64 (S k).price] else C i, by omega, by go_num, ⟨?_, Nat.le_refl _, by rw [hszW]; exact HR2.out.ghi, fun i hi => ?_⟩, by rw [hW]; exact setFrom_below (Nat.le_refl _) _ _ _ (after hbel hb2)⟩
        · rw [hW]
          refine rec_set HR2.out.row rfl (by decide) (fun i e => ?_) ?_
          · rw [upto_step _ _ _ _ e]; unfold upto; by_cases h : i < k
            · rw [if_pos h, if_pos h]; exact if_neg e
            · rw [if_neg h, if_neg h]
          · rw [upto_lt _ _ (Nat.lt_succ_self k)]; exact if_pos rfl
        · rw [hszW]
          by_cases e : i = k
          · subst e
            rw [if_pos rfl]
            exact (HIN.out.wide (by omega) (Nat.le_refl _)).kept hk2 (fun b h => by left; omega)
          · rw [if_neg e]
            exact (HR2.out.each i (by omega)).kept hk2 (fun b h => by left; omega)
      case measure => simp [intOf]; omega
    · obtain rfl : k = N := by omega
      go_wp2
      go_ret
      exact ⟨_, C, rfl, hrow, hbel⟩

set_option maxHeartbeats 3200000 in
set_option maxRecDepth 100000 in
/-- eqBookingS at two lists that are one. -/
theorem eqBookingS_same (ao bo : Option Addr) (N c1 c2 : Nat) (S : Nat → Book) (w : World) (hN : N ≤ 1048576) (hs : BooksShort N S 1048576) (hx : BooksAt w ao N S) (hy : BooksAt w bo N S) :
    Calls Tryz.prog 35 #[.slice ao N c1, .slice bo N c2] w fun e w' => e = .returned (.bool true) ∧ Below w.heap.size w w' := by
  have HS : Hid (BooksShort N S 1048576) := hs
  have HX : Hid (BooksAt w ao N S) := hx
  have HY : Hid (BooksAt w bo N S) := hy
  clear hs hx hy
  go_enter Tryz.func35, Tryz.ntmps35
  go_wp2
  go_loopw [5] (fun i wr => ∃ k : Nat, k ≤ N ∧ i = .int .i64 k ∧ Below w.heap.size w wr) (fun i _ => N - (intOf i).toNat)
  case atStart => exact ⟨0, Nat.zero_le _, rfl, Below.refl _ _⟩
  case round =>
    obtain ⟨k, hk, rfl, hbel⟩ := hrel
    by_cases hlt : k < N
    · obtain ⟨C, hC, hI⟩ := HX.out
      obtain ⟨D, hD, hJ⟩ := HY.out
      obtain ⟨b, off, rfl, hc⟩ := hC k hlt
      obtain ⟨b2, off2, rfl, hd⟩ := hD k hlt
      have HIK : Hid (Book.Is w (C k) (S k)) := hI k hlt
      have HJK : Hid (Book.Is w (D k) (S k)) := hJ k hlt
      obtain ⟨alg, clg, eC, hlg, slg⟩ := hI k hlt
      obtain ⟨alg', clg', eD, hlg', slg'⟩ := hJ k hlt
      have l1 : b < w.heap.size := World.block_lt_of_cell? w _ (hc 0 (by decide))
      have l2 : b2 < w.heap.size := World.block_lt_of_cell? w _ (hd 0 (by decide))
      have i1 : (0 : Int) ≤ (k : Int) := by omega
      have i2 : (k : Int) < (N : Int) := by omega
      have z0 : ∀ g : Grown wr, g.val.cell? ⟨b, off + k * 13, none⟩ = some (.int .i64 (S k).name) := fun g => ((hbel.trans (g.bel.mono hbel.size)).cell (p := ⟨b, off + k * 13, none⟩) l1).trans (by have := hc 0 (by decide); rw [eC] at this; exact this)
      have y0 : ∀ g : Grown wr, g.val.cell? ⟨b2, off2 + k * 13, none⟩ = some (.int .i64 (S k).name) := fun g => ((hbel.trans (g.bel.mono hbel.size)).cell (p := ⟨b2, off2 + k * 13, none⟩) l2).trans (by have := hd 0 (by decide); rw [eD] at this; exact this)
      have z1 : ∀ g : Grown wr, g.val.cell? ⟨b, off + k * 13 + 1, none⟩ = some (.int .i64 (S k).who) := fun g => ((hbel.trans (g.bel.mono hbel.size)).cell (p := ⟨b, off + k * 13 + 1, none⟩) l1).trans (by have := hc 1 (by decide); rw [eC] at this; exact this)
      have y1 : ∀ g : Grown wr, g.val.cell? ⟨b2, off2 + k * 13 + 1, none⟩ = some (.int .i64 (S k).who) := fun g => ((hbel.trans (g.bel.mono hbel.size)).cell (p := ⟨b2, off2 + k * 13 + 1, none⟩) l2).trans (by have := hd 1 (by decide); rw [eD] at this; exact this)
      have z2 : ∀ g : Grown wr, g.val.cell? ⟨b, off + k * 13 + 2, none⟩ = some (.string (S k).own) := fun g => ((hbel.trans (g.bel.mono hbel.size)).cell (p := ⟨b, off + k * 13 + 2, none⟩) l1).trans (by have := hc 2 (by decide); rw [eC] at this; exact this)
      have y2 : ∀ g : Grown wr, g.val.cell? ⟨b2, off2 + k * 13 + 2, none⟩ = some (.string (S k).own) := fun g => ((hbel.trans (g.bel.mono hbel.size)).cell (p := ⟨b2, off2 + k * 13 + 2, none⟩) l2).trans (by have := hd 2 (by decide); rw [eD] at this; exact this)
      have z3 : ∀ g : Grown wr, g.val.cell? ⟨b, off + k * 13 + 3, none⟩ = some (.slice alg (S k).lgn clg) := fun g => ((hbel.trans (g.bel.mono hbel.size)).cell (p := ⟨b, off + k * 13 + 3, none⟩) l1).trans (by have := hc 3 (by decide); rw [eC] at this; exact this)
      have y3 : ∀ g : Grown wr, g.val.cell? ⟨b2, off2 + k * 13 + 3, none⟩ = some (.slice alg' (S k).lgn clg') := fun g => ((hbel.trans (g.bel.mono hbel.size)).cell (p := ⟨b2, off2 + k * 13 + 3, none⟩) l2).trans (by have := hd 3 (by decide); rw [eD] at this; exact this)
      have z4 : ∀ g : Grown wr, g.val.cell? ⟨b, off + k * 13 + 4, none⟩ = some (.int .i64 (S k).pe) := fun g => ((hbel.trans (g.bel.mono hbel.size)).cell (p := ⟨b, off + k * 13 + 4, none⟩) l1).trans (by have := hc 4 (by decide); rw [eC] at this; exact this)
      have y4 : ∀ g : Grown wr, g.val.cell? ⟨b2, off2 + k * 13 + 4, none⟩ = some (.int .i64 (S k).pe) := fun g => ((hbel.trans (g.bel.mono hbel.size)).cell (p := ⟨b2, off2 + k * 13 + 4, none⟩) l2).trans (by have := hd 4 (by decide); rw [eD] at this; exact this)
      have z5 : ∀ g : Grown wr, g.val.cell? ⟨b, off + k * 13 + 5, none⟩ = some (.int .i64 (S k).len) := fun g => ((hbel.trans (g.bel.mono hbel.size)).cell (p := ⟨b, off + k * 13 + 5, none⟩) l1).trans (by have := hc 5 (by decide); rw [eC] at this; exact this)
      have y5 : ∀ g : Grown wr, g.val.cell? ⟨b2, off2 + k * 13 + 5, none⟩ = some (.int .i64 (S k).len) := fun g => ((hbel.trans (g.bel.mono hbel.size)).cell (p := ⟨b2, off2 + k * 13 + 5, none⟩) l2).trans (by have := hd 5 (by decide); rw [eD] at this; exact this)
      have z6 : ∀ g : Grown wr, g.val.cell? ⟨b, off + k * 13 + 6, none⟩ = some (.int .i64 (S k).hei) := fun g => ((hbel.trans (g.bel.mono hbel.size)).cell (p := ⟨b, off + k * 13 + 6, none⟩) l1).trans (by have := hc 6 (by decide); rw [eC] at this; exact this)
      have y6 : ∀ g : Grown wr, g.val.cell? ⟨b2, off2 + k * 13 + 6, none⟩ = some (.int .i64 (S k).hei) := fun g => ((hbel.trans (g.bel.mono hbel.size)).cell (p := ⟨b2, off2 + k * 13 + 6, none⟩) l2).trans (by have := hd 6 (by decide); rw [eD] at this; exact this)
      have z7 : ∀ g : Grown wr, g.val.cell? ⟨b, off + k * 13 + 7, none⟩ = some (.int .i64 (S k).cl) := fun g => ((hbel.trans (g.bel.mono hbel.size)).cell (p := ⟨b, off + k * 13 + 7, none⟩) l1).trans (by have := hc 7 (by decide); rw [eC] at this; exact this)
      have y7 : ∀ g : Grown wr, g.val.cell? ⟨b2, off2 + k * 13 + 7, none⟩ = some (.int .i64 (S k).cl) := fun g => ((hbel.trans (g.bel.mono hbel.size)).cell (p := ⟨b2, off2 + k * 13 + 7, none⟩) l2).trans (by have := hd 7 (by decide); rw [eD] at this; exact this)
      have z8 : ∀ g : Grown wr, g.val.cell? ⟨b, off + k * 13 + 8, none⟩ = some (.bool (S k).all) := fun g => ((hbel.trans (g.bel.mono hbel.size)).cell (p := ⟨b, off + k * 13 + 8, none⟩) l1).trans (by have := hc 8 (by decide); rw [eC] at this; exact this)
      have y8 : ∀ g : Grown wr, g.val.cell? ⟨b2, off2 + k * 13 + 8, none⟩ = some (.bool (S k).all) := fun g => ((hbel.trans (g.bel.mono hbel.size)).cell (p := ⟨b2, off2 + k * 13 + 8, none⟩) l2).trans (by have := hd 8 (by decide); rw [eD] at this; exact this)
      have z9 : ∀ g : Grown wr, g.val.cell? ⟨b, off + k * 13 + 9, none⟩ = some (.int .i64 (S k).be) := fun g => ((hbel.trans (g.bel.mono hbel.size)).cell (p := ⟨b, off + k * 13 + 9, none⟩) l1).trans (by have := hc 9 (by decide); rw [eC] at this; exact this)
      have y9 : ∀ g : Grown wr, g.val.cell? ⟨b2, off2 + k * 13 + 9, none⟩ = some (.int .i64 (S k).be) := fun g => ((hbel.trans (g.bel.mono hbel.size)).cell (p := ⟨b2, off2 + k * 13 + 9, none⟩) l2).trans (by have := hd 9 (by decide); rw [eD] at this; exact this)
      have z10 : ∀ g : Grown wr, g.val.cell? ⟨b, off + k * 13 + 10, none⟩ = some (.int .i64 (S k).state) := fun g => ((hbel.trans (g.bel.mono hbel.size)).cell (p := ⟨b, off + k * 13 + 10, none⟩) l1).trans (by have := hc 10 (by decide); rw [eC] at this; exact this)
      have y10 : ∀ g : Grown wr, g.val.cell? ⟨b2, off2 + k * 13 + 10, none⟩ = some (.int .i64 (S k).state) := fun g => ((hbel.trans (g.bel.mono hbel.size)).cell (p := ⟨b2, off2 + k * 13 + 10, none⟩) l2).trans (by have := hd 10 (by decide); rw [eD] at this; exact this)
      have z11 : ∀ g : Grown wr, g.val.cell? ⟨b, off + k * 13 + 11, none⟩ = some (.int .i64 (S k).unt) := fun g => ((hbel.trans (g.bel.mono hbel.size)).cell (p := ⟨b, off + k * 13 + 11, none⟩) l1).trans (by have := hc 11 (by decide); rw [eC] at this; exact this)
      have y11 : ∀ g : Grown wr, g.val.cell? ⟨b2, off2 + k * 13 + 11, none⟩ = some (.int .i64 (S k).unt) := fun g => ((hbel.trans (g.bel.mono hbel.size)).cell (p := ⟨b2, off2 + k * 13 + 11, none⟩) l2).trans (by have := hd 11 (by decide); rw [eD] at this; exact this)
      have z12 : ∀ g : Grown wr, g.val.cell? ⟨b, off + k * 13 + 12, none⟩ = some (.int .i64 (S k).price) := fun g => ((hbel.trans (g.bel.mono hbel.size)).cell (p := ⟨b, off + k * 13 + 12, none⟩) l1).trans (by have := hc 12 (by decide); rw [eC] at this; exact this)
      have y12 : ∀ g : Grown wr, g.val.cell? ⟨b2, off2 + k * 13 + 12, none⟩ = some (.int .i64 (S k).price) := fun g => ((hbel.trans (g.bel.mono hbel.size)).cell (p := ⟨b2, off2 + k * 13 + 12, none⟩) l2).trans (by have := hd 12 (by decide); rw [eD] at this; exact this)
      have ZI : Hid (∀ g : Grown wr, Book.Is g.val [.int .i64 (S k).name, .int .i64 (S k).who, .string (S k).own, .slice alg (S k).lgn clg, .int .i64 (S k).pe, .int .i64 (S k).len, .int .i64 (S k).hei, .int .i64 (S k).cl, .bool (S k).all, .int .i64 (S k).be, .int .i64 (S k).state, .int .i64 (S k).unt, .int .i64 (S k).price] (S k)) := fun g => by rw [← eC]; exact (HIK.out.below hbel).below g.bel
      have ZJ : Hid (∀ g : Grown wr, Book.Is g.val [.int .i64 (S k).name, .int .i64 (S k).who, .string (S k).own, .slice alg' (S k).lgn clg', .int .i64 (S k).pe, .int .i64 (S k).len, .int .i64 (S k).hei, .int .i64 (S k).cl, .bool (S k).all, .int .i64 (S k).be, .int .i64 (S k).state, .int .i64 (S k).unt, .int .i64 (S k).price] (S k)) := fun g => by rw [← eD]; exact (HJK.out.below hbel).below g.bel
      have HSK : Hid (Book.Short (S k) 1048576) := HS.out k hlt
      clear hC hI hD hJ hc hd eC eD HIK HJK hlg slg hlg' slg'
      go_upto_region 6 with fail
      refine wp_region_grow (by kernel_rfl) (by kernel_rfl) ?_
      repeat (first | go_big_quiet_skip | (go_big_quiet_want; go_big_quiet_op; first | go_big_quiet_on | (apply Exists.intro; refine ⟨fun g => ?_, ?_⟩; (focus (first | (go_at_call 75; refine grown_call (v := .bool true) ((eqBooking_same [.int .i64 (S k).name, .int .i64 (S k).who, .string (S k).own, .slice alg (S k).lgn clg, .int .i64 (S k).pe, .int .i64 (S k).len, .int .i64 (S k).hei, .int .i64 (S k).cl, .bool (S k).all, .int .i64 (S k).be, .int .i64 (S k).state, .int .i64 (S k).unt, .int .i64 (S k).price] [.int .i64 (S k).name, .int .i64 (S k).who, .string (S k).own, .slice alg' (S k).lgn clg', .int .i64 (S k).pe, .int .i64 (S k).len, .int .i64 (S k).hei, .int .i64 (S k).cl, .bool (S k).all, .int .i64 (S k).be, .int .i64 (S k).state, .int .i64 (S k).unt, .int .i64 (S k).price] (S k) _ HSK.out (ZI.out g) (ZJ.out g)).mono ?_); rintro e w2 ⟨rfl, hb2⟩; exact ⟨rfl, hb2⟩))); go_big_quiet_on)))
      refine wpQuiet_nil ?_
      rintro _ ⟨g, rfl⟩
      clear z0 y0 z1 y1 z2 y2 z3 y3 z4 y4 z5 y5 z6 y6 z7 y7 z8 y8 z9 y9 z10 y10 z11 y11 z12 y12
      go_wp2
      go_roundw
      case rel => exact ⟨k + 1, by omega, by go_num, after hbel g.bel⟩
      case measure => simp [intOf]; omega
    · go_wp2
      go_ret
      exact ⟨rfl, hbel⟩

end Go.Proofs.YtaopapjnhlombaaGreat

namespace Go.Proofs.YtaopapjnhlombaaGreat
open Go.RowKit

/-- A copy of sailings whose memory lies from lo on, below hi. -/
structure SailsHi (w : World) (lo hi g N : Nat) (S : Nat → Sail) (l c : Nat → Nat) : Prop where
  made : SailsTo w 59 122 126 N lo g N S l c
  gh : g < hi
  lh : ∀ i, i < N → l i < hi ∧ c i < hi
theorem SailsHi.below {w w' : World} {lo hi g N : Nat} {S : Nat → Sail} {l c : Nat → Nat} (r : SailsHi w lo hi g N S l c) (hb : Below w.heap.size w w') : SailsHi w' lo hi g N S l c := ⟨r.made.below hb, r.gh, r.lh⟩
theorem SailsHi.wide {w : World} {lo hi lo' hi' g N : Nat} {S : Nat → Sail} {l c : Nat → Nat} (r : SailsHi w lo hi g N S l c) (h1 : lo' ≤ lo) (h2 : hi ≤ hi') : SailsHi w lo' hi' g N S l c :=
  ⟨⟨r.made.row, Nat.le_trans h1 r.made.lo, r.made.lanes, r.made.cabins, r.made.rise⟩, Nat.lt_of_lt_of_le r.gh h2, fun i hi => ⟨Nat.lt_of_lt_of_le (r.lh i hi).1 h2, Nat.lt_of_lt_of_le (r.lh i hi).2 h2⟩⟩
theorem SailsHi.kept {w w' : World} {lo hi g N : Nat} {S : Nat → Sail} {l c : Nat → Nat} {T : Nat → Prop} (r : SailsHi w lo hi g N S l c) (hk : Kept w w' T) (hT : ∀ b, T b → b < lo ∨ hi ≤ b) : SailsHi w' lo hi g N S l c := by
  have h0 := r.made.lo
  have h1 := r.gh
  refine ⟨⟨r.made.row.of_block (hk.block _ r.made.row.lt (fun s => by have := hT _ s; omega)), r.made.lo, fun i hi => ⟨(r.made.lanes i hi).1, ?_⟩, fun i hi => ⟨(r.made.cabins i hi).1, ?_⟩, r.made.rise⟩, r.gh, r.lh⟩
  · have h2 := (r.made.lanes i hi).1
    have h3 := (r.lh i hi).1
    exact (r.made.lanes i hi).2.of_block (hk.block _ (r.made.lanes i hi).2.lt (fun s => by have := hT _ s; omega))
  · have h2 := (r.made.lanes i hi).1
    have h4 := (r.made.cabins i hi).1
    have h3 := (r.lh i hi).2
    exact (r.made.cabins i hi).2.of_block (hk.block _ (r.made.cabins i hi).2.lt (fun s => by have := hT _ s; omega))
theorem SailsTo.high {w : World} {lo g N : Nat} {S : Nat → Sail} {l c : Nat → Nat} (r : SailsTo w 59 122 126 N lo g N S l c) : SailsHi w lo w.heap.size g N S l c :=
  ⟨r, r.row.lt, fun i hi => ⟨(r.lanes i hi).2.lt, (r.cabins i hi).2.lt⟩⟩

structure Off where
  san : Nat
  sa : Nat → Sail
  ldn : Nat
  ld : Nat → Load
  bkn : Nat
  bk : Nat → Book
/-- Cells that read as an office. -/
def Off.Is (w : World) (cs : List Value) (x : Off) : Prop :=
  ∃ asa csa ald cld abk cbk, cs = [.slice asa x.san csa, .slice ald x.ldn cld, .slice abk x.bkn cbk] ∧ SailsAt w asa x.san x.sa ∧ SliceOk asa x.san csa ∧ LoadsAt w ald x.ldn x.ld ∧ SliceOk ald x.ldn cld ∧ BooksAt w abk x.bkn x.bk ∧ SliceOk abk x.bkn cbk
theorem Off.Is.below {w w' : World} {cs : List Value} {x : Off} (h : Off.Is w cs x) (hb : Below w.heap.size w w') : Off.Is w' cs x := by
  obtain ⟨asa, csa, ald, cld, abk, cbk, e, h1, s1, h2, s2, h3, s3⟩ := h
  exact ⟨asa, csa, ald, cld, abk, cbk, e, h1.below hb, s1, h2.below hb, s2, h3.below hb, s3⟩
def Off.Short (x : Off) (B : Nat) : Prop := (x.san ≤ B ∧ ShortAll x.san x.sa B) ∧ (x.ldn ≤ B ∧ LoadsShort x.ldn x.ld B) ∧ (x.bkn ≤ B ∧ BooksShort x.bkn x.bk B)
/-- A copy whose memory lies from lo on, below hi: the sailings first, then the loads, then the bookings. -/
def Off.In (w : World) (lo hi : Nat) (cs : List Value) (x : Off) : Prop :=
  ∃ m1 m2 gsa l c gld C gbk E, cs = [whole gsa x.san, whole gld x.ldn, whole gbk x.bkn] ∧ (lo ≤ m1 ∧ m1 ≤ m2 ∧ m2 ≤ hi) ∧ SailsHi w lo m1 gsa x.san x.sa l c ∧ LoadsTo w x.ldn m1 m2 gld x.ldn x.ld C ∧ BooksTo w x.bkn m2 hi gbk x.bkn x.bk E
theorem Off.In.below {w w' : World} {lo hi : Nat} {cs : List Value} {x : Off} (h : Off.In w lo hi cs x) (hb : Below w.heap.size w w') : Off.In w' lo hi cs x := by
  obtain ⟨m1, m2, gsa, l, c, gld, C, gbk, E, e, hm, h1, h2, h3⟩ := h
  exact ⟨m1, m2, gsa, l, c, gld, C, gbk, E, e, hm, h1.below hb, h2.below hb, h3.below hb⟩
theorem Off.In.kept {w w' : World} {lo hi : Nat} {T : Nat → Prop} {cs : List Value} {x : Off} (h : Off.In w lo hi cs x) (hk : Kept w w' T) (hT : ∀ b, T b → b < lo ∨ hi ≤ b) : Off.In w' lo hi cs x := by
  obtain ⟨m1, m2, gsa, l, c, gld, C, gbk, E, e, hm, h1, h2, h3⟩ := h
  exact ⟨m1, m2, gsa, l, c, gld, C, gbk, E, e, hm, h1.kept hk (fun b s => by have := hT b s; omega), h2.kept hk (fun b s => by have := hT b s; omega), h3.kept hk (fun b s => by have := hT b s; omega)⟩
theorem Off.In.is {w : World} {lo hi : Nat} {cs : List Value} {x : Off} (h : Off.In w lo hi cs x) (hs : Off.Short x 1048576) : Off.Is w cs x := by
  obtain ⟨m1, m2, gsa, l, c, gld, C, gbk, E, e, hm, h1, h2, h3⟩ := h
  obtain ⟨⟨n1, s1⟩, ⟨n2, s2⟩, ⟨n3, s3⟩⟩ := hs
  exact ⟨some ⟨gsa, 0, none⟩, x.san, some ⟨gld, 0, none⟩, x.ldn, some ⟨gbk, 0, none⟩, x.bkn, e, h1.made.sails (fun i hi => (s1 i hi).2.2.1) (fun i hi => (s1 i hi).2.2.2), ⟨Nat.le_refl _, by omega, fun h => by cases h⟩, h2.at s2, ⟨Nat.le_refl _, by omega, fun h => by cases h⟩, h3.at s3, ⟨Nat.le_refl _, by omega, fun h => by cases h⟩⟩

end Go.Proofs.YtaopapjnhlombaaGreat

namespace Go.Proofs.YtaopapjnhlombaaGreat
open Go.RowKit

/-- Where the first sailing with the Id x stands among the first n, n where there is none. -/
def findIx (S : Nat → Sail) (x : Int) : Nat → Nat
  | 0 => 0
  | n + 1 => if findIx S x n < n then findIx S x n else if (S n).id = x then n else n + 1
theorem findIx_le (S : Nat → Sail) (x : Int) (n : Nat) : findIx S x n ≤ n := by
  induction n with
  | zero => exact Nat.le_refl _
  | succ n ih => unfold findIx; split <;> (try split) <;> omega
theorem findIx_before (S : Nat → Sail) (x : Int) (n : Nat) : ∀ j, j < findIx S x n → (S j).id ≠ x := by
  induction n with
  | zero => intro j hj; unfold findIx at hj; omega
  | succ n ih =>
    intro j hj
    unfold findIx at hj
    have hl := findIx_le S x n
    split at hj
    · exact ih j hj
    · rename_i h
      split at hj
      · exact ih j (by omega)
      · rename_i h2
        by_cases e : j = n
        · subst e; exact h2
        · exact ih j (by omega)
theorem findIx_at (S : Nat → Sail) (x : Int) (n : Nat) (h : findIx S x n < n) : (S (findIx S x n)).id = x := by
  induction n with
  | zero => omega
  | succ n ih =>
    unfold findIx at h ⊢
    split
    · rename_i h1; exact ih h1
    · rename_i h1
      rw [if_neg h1] at h
      split
      · rename_i h2; exact h2
      · rename_i h2; rw [if_neg h2] at h; omega
/-- The one that is met first is it. -/
theorem findIx_is {S : Nat → Sail} {x : Int} {n r : Nat} (hr : r < n) (he : (S r).id = x) (hb : ∀ j, j < r → (S j).id ≠ x) : findIx S x n = r := by
  have h1 := findIx_before S x n
  by_cases c : findIx S x n < r
  · exact absurd (findIx_at S x n (by omega)) (hb _ c)
  · by_cases c2 : r < findIx S x n
    · exact absurd he (h1 r c2)
    · omega
theorem findIx_none {S : Nat → Sail} {x : Int} {n : Nat} (hb : ∀ j, j < n → (S j).id ≠ x) : findIx S x n = n := by
  have h1 := findIx_le S x n
  by_cases c : findIx S x n < n
  · exact absurd (findIx_at S x n c) (hb _ c)
  · omega

/-- Leg i of the legs G can be taken behind the one ahead. -/
def LegOk (N : Nat) (S : Nat → Sail) (G : Nat → Int) (i : Nat) : Prop :=
  findIx S (G i) N < N ∧ (0 < i → (S (findIx S (G (i - 1)) N)).dst = (S (findIx S (G i) N)).fr ∧ (S (findIx S (G (i - 1)) N)).arr ≤ (S (findIx S (G i) N)).dep)
/-- n legs fit. -/
def LegsOk (N : Nat) (S : Nat → Sail) (n : Nat) (G : Nat → Int) : Prop := 1 ≤ n ∧ n ≤ 3 ∧ ∀ i, i < n → LegOk N S G i

end Go.Proofs.YtaopapjnhlombaaGreat
