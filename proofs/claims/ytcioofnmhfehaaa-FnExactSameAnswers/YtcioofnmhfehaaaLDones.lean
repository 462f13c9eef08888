/-
  OWN TEXT: contracts of the laws' helpers over lists: szDoneS, toDoneS, eqDoneS.
-/
import Derived.Test.YtcioofnmhfehaaaLDone
namespace Go.Proofs.Ytcioofnmhfehaaa
open Go.RowKit

set_option maxHeartbeats 1600000 in
set_option maxRecDepth 100000 in
theorem szDoneS_any (ao : Option Addr) (N c : Nat) (S : Nat → DoneD) (L0 : Int) (w : World) (h0 : 0 ≤ L0) (hL0 : L0 ≤ 1048576) (hN : N ≤ 1000000000000000) (hs : DoneDsShort N S 1000000000000000) (hx : DoneDsAt w ao N S) :
    Calls Try.prog 5 #[.slice ao N c, .int .i64 L0] w fun e w' => ∃ r : Int, e = .returned (.int .i64 r) ∧ (r = -1 ∨ (0 ≤ r ∧ r ≤ L0 ∧ N ≤ 1048576 ∧ DoneDsShort N S 1048576)) ∧ Below w.heap.size w w' := by
  have HS : Hid (DoneDsShort N S 1000000000000000) := hs
  have HX : Hid (DoneDsAt w ao N S) := hx
  clear hs hx
  by_cases hf : (N : Int) ≤ L0
  · have d0 : decide (L0 - (N : Int) < 0) = false := by simp; omega
    go_enter Try.func5, Try.ntmps5
    go_wp2
    go_loopw [1, 5] (fun l i wr => ∃ (k : Nat) (L : Int), k ≤ N ∧ i = .int .i64 k ∧ l = .int .i64 L ∧ 0 ≤ L ∧ L ≤ L0 ∧ DoneDsShort k S 1048576 ∧ Below w.heap.size w wr) (fun _ i _ => N - (intOf i).toNat)
    case atStart => exact ⟨0, _, Nat.zero_le _, rfl, rfl, by omega, by omega, fun i hi => by omega, Below.refl _ _⟩
    case round =>
      obtain ⟨k, L, hk, rfl, rfl, l0, l1, hst, hbel⟩ := hrel
      have HT : Hid (DoneDsShort k S 1048576) := hst
      clear hst d0
      by_cases hlt : k < N
      · obtain ⟨C, hC, hI⟩ := HX.out
        obtain ⟨b, off, rfl, hc⟩ := hC k hlt
        have HIK : Hid (DoneD.Is w (C k) (S k)) := hI k hlt
        obtain ⟨alg, clg, arw, crw, eC, hlg, slg, hrw, srw⟩ := hI k hlt
        have hlt' : b < w.heap.size := World.block_lt_of_cell? w _ (hc 0 (by decide))
        have c0 : wr.cell? ⟨b, off + k * 17, none⟩ = some (.int .i64 (S k).who) := (hbel.cell (p := ⟨b, off + k * 17, none⟩) hlt').trans (by have := hc 0 (by decide); rw [eC] at this; exact this)
        have c1 : wr.cell? ⟨b, off + k * 17 + 1, none⟩ = some (.int .i64 (S k).kind) := (hbel.cell (p := ⟨b, off + k * 17 + 1, none⟩) hlt').trans (by have := hc 1 (by decide); rw [eC] at this; exact this)
        have c2 : wr.cell? ⟨b, off + k * 17 + 2, none⟩ = some (.string (S k).own) := (hbel.cell (p := ⟨b, off + k * 17 + 2, none⟩) hlt').trans (by have := hc 2 (by decide); rw [eC] at this; exact this)
        have c3 : wr.cell? ⟨b, off + k * 17 + 3, none⟩ = some (.int .i64 (S k).name) := (hbel.cell (p := ⟨b, off + k * 17 + 3, none⟩) hlt').trans (by have := hc 3 (by decide); rw [eC] at this; exact this)
        have c4 : wr.cell? ⟨b, off + k * 17 + 4, none⟩ = some (.slice alg (S k).lgn clg) := (hbel.cell (p := ⟨b, off + k * 17 + 4, none⟩) hlt').trans (by have := hc 4 (by decide); rw [eC] at this; exact this)
        have c5 : wr.cell? ⟨b, off + k * 17 + 5, none⟩ = some (.int .i64 (S k).pe) := (hbel.cell (p := ⟨b, off + k * 17 + 5, none⟩) hlt').trans (by have := hc 5 (by decide); rw [eC] at this; exact this)
        have c6 : wr.cell? ⟨b, off + k * 17 + 6, none⟩ = some (.int .i64 (S k).len) := (hbel.cell (p := ⟨b, off + k * 17 + 6, none⟩) hlt').trans (by have := hc 6 (by decide); rw [eC] at this; exact this)
        have c7 : wr.cell? ⟨b, off + k * 17 + 7, none⟩ = some (.int .i64 (S k).hei) := (hbel.cell (p := ⟨b, off + k * 17 + 7, none⟩) hlt').trans (by have := hc 7 (by decide); rw [eC] at this; exact this)
        have c8 : wr.cell? ⟨b, off + k * 17 + 8, none⟩ = some (.int .i64 (S k).cl) := (hbel.cell (p := ⟨b, off + k * 17 + 8, none⟩) hlt').trans (by have := hc 8 (by decide); rw [eC] at this; exact this)
        have c9 : wr.cell? ⟨b, off + k * 17 + 9, none⟩ = some (.bool (S k).all) := (hbel.cell (p := ⟨b, off + k * 17 + 9, none⟩) hlt').trans (by have := hc 9 (by decide); rw [eC] at this; exact this)
        have c10 : wr.cell? ⟨b, off + k * 17 + 10, none⟩ = some (.int .i64 (S k).be) := (hbel.cell (p := ⟨b, off + k * 17 + 10, none⟩) hlt').trans (by have := hc 10 (by decide); rw [eC] at this; exact this)
        have c11 : wr.cell? ⟨b, off + k * 17 + 11, none⟩ = some (.int .i64 (S k).unt) := (hbel.cell (p := ⟨b, off + k * 17 + 11, none⟩) hlt').trans (by have := hc 11 (by decide); rw [eC] at this; exact this)
        have c12 : wr.cell? ⟨b, off + k * 17 + 12, none⟩ = some (.int .i64 (S k).now) := (hbel.cell (p := ⟨b, off + k * 17 + 12, none⟩) hlt').trans (by have := hc 12 (by decide); rw [eC] at this; exact this)
        have c13 : wr.cell? ⟨b, off + k * 17 + 13, none⟩ = some (.int .i64 (S k).code) := (hbel.cell (p := ⟨b, off + k * 17 + 13, none⟩) hlt').trans (by have := hc 13 (by decide); rw [eC] at this; exact this)
        have c14 : wr.cell? ⟨b, off + k * 17 + 14, none⟩ = some (.int .i64 (S k).anam) := (hbel.cell (p := ⟨b, off + k * 17 + 14, none⟩) hlt').trans (by have := hc 14 (by decide); rw [eC] at this; exact this)
        have c15 : wr.cell? ⟨b, off + k * 17 + 15, none⟩ = some (.int .i64 (S k).price) := (hbel.cell (p := ⟨b, off + k * 17 + 15, none⟩) hlt').trans (by have := hc 15 (by decide); rw [eC] at this; exact this)
        have c16 : wr.cell? ⟨b, off + k * 17 + 16, none⟩ = some (.slice arw (S k).rwn crw) := (hbel.cell (p := ⟨b, off + k * 17 + 16, none⟩) hlt').trans (by have := hc 16 (by decide); rw [eC] at this; exact this)
        have HIW : Hid (DoneD.Is wr [.int .i64 (S k).who, .int .i64 (S k).kind, .string (S k).own, .int .i64 (S k).name, .slice alg (S k).lgn clg, .int .i64 (S k).pe, .int .i64 (S k).len, .int .i64 (S k).hei, .int .i64 (S k).cl, .bool (S k).all, .int .i64 (S k).be, .int .i64 (S k).unt, .int .i64 (S k).now, .int .i64 (S k).code, .int .i64 (S k).anam, .int .i64 (S k).price, .slice arw (S k).rwn crw] (S k)) := by show DoneD.Is wr [.int .i64 (S k).who, .int .i64 (S k).kind, .string (S k).own, .int .i64 (S k).name, .slice alg (S k).lgn clg, .int .i64 (S k).pe, .int .i64 (S k).len, .int .i64 (S k).hei, .int .i64 (S k).cl, .bool (S k).all, .int .i64 (S k).be, .int .i64 (S k).unt, .int .i64 (S k).now, .int .i64 (S k).code, .int .i64 (S k).anam, .int .i64 (S k).price, .slice arw (S k).rwn crw] (S k); rw [← eC]; exact HIK.out.below hbel
        have HSK : Hid (DoneD.Short (S k) 1000000000000000) := HS.out k hlt
        clear hC hI hc eC HIK hlg slg hrw srw
        go_wp2_with fail
        refine (szDone_any [.int .i64 (S k).who, .int .i64 (S k).kind, .string (S k).own, .int .i64 (S k).name, .slice alg (S k).lgn clg, .int .i64 (S k).pe, .int .i64 (S k).len, .int .i64 (S k).hei, .int .i64 (S k).cl, .bool (S k).all, .int .i64 (S k).be, .int .i64 (S k).unt, .int .i64 (S k).now, .int .i64 (S k).code, .int .i64 (S k).anam, .int .i64 (S k).price, .slice arw (S k).rwn crw] (S k) L _ l0 (by omega) HSK.out HIW.out).mono ?_
        rintro e w2 ⟨r, rfl, hr, hb3⟩
        rcases hr with rfl | ⟨r0, r1, r2⟩
        · go_wp2
          go_ret
          exact ⟨_, rfl, .inl rfl, after hbel hb3⟩
        · have d1 : decide (r < 0) = false := by simpa using r0
          go_wp2
          go_roundw
          case rel =>
            refine ⟨k + 1, r, by omega, by go_num, rfl, r0, by omega, fun i hi => ?_, after hbel hb3⟩
            by_cases e : i = k
            · subst e; exact r2
            · exact HT.out i (by omega)
          case measure => simp [intOf]; omega
      · obtain rfl : k = N := by omega
        go_wp2
        go_ret
        exact ⟨_, rfl, .inr ⟨l0, l1, by omega, HT.out⟩, hbel⟩
  · have d0 : decide (L0 - (N : Int) < 0) = true := by simp; omega
    go_enter Try.func5, Try.ntmps5
    go_wp2
    go_ret
    exact ⟨_, rfl, .inl rfl, Below.refl _ _⟩

theorem Try.infoDone : (Try.prog.info? 57).map (fun i => (i.zero, i.size, i.bytes)) = some (some (.agg #[.int .i64 0, .int .i64 0, .string ⟨#[]⟩, .int .i64 0, .slice none 0 0, .int .i64 0, .int .i64 0, .int .i64 0, .int .i64 0, .bool false, .int .i64 0, .int .i64 0, .int .i64 0, .int .i64 0, .int .i64 0, .int .i64 0, .slice none 0 0]), 17, 176) := by kernel_rfl

set_option maxHeartbeats 1600000 in
set_option maxRecDepth 100000 in
/-- toDoneS: a copy, its lists in new memory behind its own row. -/
theorem toDoneS_any (ao : Option Addr) (N cap : Nat) (S : Nat → DoneD) (w : World) (hN : N ≤ 1048576) (hs : DoneDsShort N S 1048576) (hz : DoneDsAt w ao N S) :
    Calls Try.prog 7 #[.slice ao N cap] w fun e w' => ∃ g C, e = .returned (.slice (some ⟨g, 0, none⟩) N N) ∧ DoneDsTo w' N w.heap.size w'.heap.size g N S C ∧ Below w.heap.size w w' := by
  obtain ⟨i0, hi, hz0, hz1, hz2⟩ := info_parts Try.infoDone
  have HS : Hid (DoneDsShort N S 1048576) := hs
  have HX : Hid (DoneDsAt w ao N S) := hz
  clear hs hz
  go_enter Try.func7, Try.ntmps7
  go_wp2_with (first | (at_make; refine wpList_make_full _ rfl _ _ 26 rfl w.heap.size 57 i0 _ 17 Try.underlying26 hi hz0 hz1 .i64 .i64 _ _ N rfl rfl rfl rfl (by rw [hz2]; omega) (by unfold maxLen; omega) (Nat.le_refl _) ?_; intro w1 hown1 hgrow1))
  go_loopw [4] (fun i wr => ∃ (k : Nat) (C : Nat → List Value), k ≤ N ∧ i = .int .i64 k ∧ DoneDsTo wr k w.heap.size wr.heap.size w.heap.size N S C ∧ Below w.heap.size w wr)
    (fun i _ => N - (intOf i).toNat)
  case atStart => exact ⟨0, fun _ => [], Nat.zero_le _, rfl, ⟨(row_of_own hown1).congr (fun j hj => (made_recs (z := #[.int .i64 0, .int .i64 0, .string ⟨#[]⟩, .int .i64 0, .slice none 0 0, .int .i64 0, .int .i64 0, .int .i64 0, .int .i64 0, .bool false, .int .i64 0, .int .i64 0, .int .i64 0, .int .i64 0, .int .i64 0, .int .i64 0, .slice none 0 0]) (sz := 17) rfl N j hj).trans (by unfold recCell; rw [upto_ge _ _ (by omega)])), Nat.le_refl _, (row_of_own hown1).lt, fun i hi => by omega⟩, (Below.refl _ _).grown hgrow1 (Nat.le_refl _) (by simp)⟩
  case round =>
    obtain ⟨k, C, hk, rfl, hrow, hbel⟩ := hrel
    clear hown1 hgrow1
    by_cases hlt : k < N
    · obtain ⟨E, hE, hI⟩ := HX.out
      obtain ⟨b, off, rfl, hc⟩ := hE k hlt
      have HIK : Hid (DoneD.Is w (E k) (S k)) := hI k hlt
      obtain ⟨alg, clg, arw, crw, eC, hlg, slg, hrw, srw⟩ := hI k hlt
      have hlt' : b < w.heap.size := World.block_lt_of_cell? w _ (hc 0 (by decide))
      have c0 : wr.cell? ⟨b, off + k * 17, none⟩ = some (.int .i64 (S k).who) := (hbel.cell (p := ⟨b, off + k * 17, none⟩) hlt').trans (by have := hc 0 (by decide); rw [eC] at this; exact this)
      have c1 : wr.cell? ⟨b, off + k * 17 + 1, none⟩ = some (.int .i64 (S k).kind) := (hbel.cell (p := ⟨b, off + k * 17 + 1, none⟩) hlt').trans (by have := hc 1 (by decide); rw [eC] at this; exact this)
      have c2 : wr.cell? ⟨b, off + k * 17 + 2, none⟩ = some (.string (S k).own) := (hbel.cell (p := ⟨b, off + k * 17 + 2, none⟩) hlt').trans (by have := hc 2 (by decide); rw [eC] at this; exact this)
      have c3 : wr.cell? ⟨b, off + k * 17 + 3, none⟩ = some (.int .i64 (S k).name) := (hbel.cell (p := ⟨b, off + k * 17 + 3, none⟩) hlt').trans (by have := hc 3 (by decide); rw [eC] at this; exact this)
      have c4 : wr.cell? ⟨b, off + k * 17 + 4, none⟩ = some (.slice alg (S k).lgn clg) := (hbel.cell (p := ⟨b, off + k * 17 + 4, none⟩) hlt').trans (by have := hc 4 (by decide); rw [eC] at this; exact this)
      have c5 : wr.cell? ⟨b, off + k * 17 + 5, none⟩ = some (.int .i64 (S k).pe) := (hbel.cell (p := ⟨b, off + k * 17 + 5, none⟩) hlt').trans (by have := hc 5 (by decide); rw [eC] at this; exact this)
      have c6 : wr.cell? ⟨b, off + k * 17 + 6, none⟩ = some (.int .i64 (S k).len) := (hbel.cell (p := ⟨b, off + k * 17 + 6, none⟩) hlt').trans (by have := hc 6 (by decide); rw [eC] at this; exact this)
      have c7 : wr.cell? ⟨b, off + k * 17 + 7, none⟩ = some (.int .i64 (S k).hei) := (hbel.cell (p := ⟨b, off + k * 17 + 7, none⟩) hlt').trans (by have := hc 7 (by decide); rw [eC] at this; exact this)
      have c8 : wr.cell? ⟨b, off + k * 17 + 8, none⟩ = some (.int .i64 (S k).cl) := (hbel.cell (p := ⟨b, off + k * 17 + 8, none⟩) hlt').trans (by have := hc 8 (by decide); rw [eC] at this; exact this)
      have c9 : wr.cell? ⟨b, off + k * 17 + 9, none⟩ = some (.bool (S k).all) := (hbel.cell (p := ⟨b, off + k * 17 + 9, none⟩) hlt').trans (by have := hc 9 (by decide); rw [eC] at this; exact this)
      have c10 : wr.cell? ⟨b, off + k * 17 + 10, none⟩ = some (.int .i64 (S k).be) := (hbel.cell (p := ⟨b, off + k * 17 + 10, none⟩) hlt').trans (by have := hc 10 (by decide); rw [eC] at this; exact this)
      have c11 : wr.cell? ⟨b, off + k * 17 + 11, none⟩ = some (.int .i64 (S k).unt) := (hbel.cell (p := ⟨b, off + k * 17 + 11, none⟩) hlt').trans (by have := hc 11 (by decide); rw [eC] at this; exact this)
      have c12 : wr.cell? ⟨b, off + k * 17 + 12, none⟩ = some (.int .i64 (S k).now) := (hbel.cell (p := ⟨b, off + k * 17 + 12, none⟩) hlt').trans (by have := hc 12 (by decide); rw [eC] at this; exact this)
      have c13 : wr.cell? ⟨b, off + k * 17 + 13, none⟩ = some (.int .i64 (S k).code) := (hbel.cell (p := ⟨b, off + k * 17 + 13, none⟩) hlt').trans (by have := hc 13 (by decide); rw [eC] at this; exact this)
      have c14 : wr.cell? ⟨b, off + k * 17 + 14, none⟩ = some (.int .i64 (S k).anam) := (hbel.cell (p := ⟨b, off + k * 17 + 14, none⟩) hlt').trans (by have := hc 14 (by decide); rw [eC] at this; exact this)
      have c15 : wr.cell? ⟨b, off + k * 17 + 15, none⟩ = some (.int .i64 (S k).price) := (hbel.cell (p := ⟨b, off + k * 17 + 15, none⟩) hlt').trans (by have := hc 15 (by decide); rw [eC] at this; exact this)
      have c16 : wr.cell? ⟨b, off + k * 17 + 16, none⟩ = some (.slice arw (S k).rwn crw) := (hbel.cell (p := ⟨b, off + k * 17 + 16, none⟩) hlt').trans (by have := hc 16 (by decide); rw [eC] at this; exact this)
      have HIW : Hid (DoneD.Is wr [.int .i64 (S k).who, .int .i64 (S k).kind, .string (S k).own, .int .i64 (S k).name, .slice alg (S k).lgn clg, .int .i64 (S k).pe, .int .i64 (S k).len, .int .i64 (S k).hei, .int .i64 (S k).cl, .bool (S k).all, .int .i64 (S k).be, .int .i64 (S k).unt, .int .i64 (S k).now, .int .i64 (S k).code, .int .i64 (S k).anam, .int .i64 (S k).price, .slice arw (S k).rwn crw] (S k)) := by show DoneD.Is wr [.int .i64 (S k).who, .int .i64 (S k).kind, .string (S k).own, .int .i64 (S k).name, .slice alg (S k).lgn clg, .int .i64 (S k).pe, .int .i64 (S k).len, .int .i64 (S k).hei, .int .i64 (S k).cl, .bool (S k).all, .int .i64 (S k).be, .int .i64 (S k).unt, .int .i64 (S k).now, .int .i64 (S k).code, .int .i64 (S k).anam, .int .i64 (S k).price, .slice arw (S k).rwn crw] (S k); rw [← eC]; exact HIK.out.below hbel
      have HSK : Hid (DoneD.Short (S k) 1048576) := HS.out k hlt
      have HROW : Hid (DoneDsTo wr k w.heap.size wr.heap.size w.heap.size N S C) := hrow
      clear hE hI hc eC HIK hrow hlg slg hrw srw
      go_wp2_with fail
      refine (toDone_any [.int .i64 (S k).who, .int .i64 (S k).kind, .string (S k).own, .int .i64 (S k).name, .slice alg (S k).lgn clg, .int .i64 (S k).pe, .int .i64 (S k).len, .int .i64 (S k).hei, .int .i64 (S k).cl, .bool (S k).all, .int .i64 (S k).be, .int .i64 (S k).unt, .int .i64 (S k).now, .int .i64 (S k).code, .int .i64 (S k).anam, .int .i64 (S k).price, .slice arw (S k).rwn crw] (S k) _ HSK.out HIW.out).mono ?_
      rintro e w2 ⟨cs', rfl, hin, hb2⟩
      have HIN : Hid (DoneD.In w2 wr.heap.size w2.heap.size cs' (S k)) := hin
      obtain ⟨llg, lrw, rfl, _, _⟩ := hin
      unfold whole
      have hr2 := (HROW.out.below hb2).wide (Nat.le_refl _) hb2.size
      have hsz := HROW.out.ghi
      clear c0 c1 c2 c3 c4 c5 c6 c7 c8 c9 c10 c11 c12 c13 c14 c15 c16
      have o0 := hr2.row.cell (i := k * 17) (by omega)
      have f0 := hr2.row.frozen (k * 17)
      have o1 := hr2.row.cell (i := k * 17 + 1) (by omega)
      have f1 := hr2.row.frozen (k * 17 + 1)
      have o2 := hr2.row.cell (i := k * 17 + 2) (by omega)
      have f2 := hr2.row.frozen (k * 17 + 2)
      have o3 := hr2.row.cell (i := k * 17 + 3) (by omega)
      have f3 := hr2.row.frozen (k * 17 + 3)
      have o4 := hr2.row.cell (i := k * 17 + 4) (by omega)
      have f4 := hr2.row.frozen (k * 17 + 4)
      have o5 := hr2.row.cell (i := k * 17 + 5) (by omega)
      have f5 := hr2.row.frozen (k * 17 + 5)
      have o6 := hr2.row.cell (i := k * 17 + 6) (by omega)
      have f6 := hr2.row.frozen (k * 17 + 6)
      have o7 := hr2.row.cell (i := k * 17 + 7) (by omega)
      have f7 := hr2.row.frozen (k * 17 + 7)
      have o8 := hr2.row.cell (i := k * 17 + 8) (by omega)
      have f8 := hr2.row.frozen (k * 17 + 8)
      have o9 := hr2.row.cell (i := k * 17 + 9) (by omega)
      have f9 := hr2.row.frozen (k * 17 + 9)
      have o10 := hr2.row.cell (i := k * 17 + 10) (by omega)
      have f10 := hr2.row.frozen (k * 17 + 10)
      have o11 := hr2.row.cell (i := k * 17 + 11) (by omega)
      have f11 := hr2.row.frozen (k * 17 + 11)
      have o12 := hr2.row.cell (i := k * 17 + 12) (by omega)
      have f12 := hr2.row.frozen (k * 17 + 12)
      have o13 := hr2.row.cell (i := k * 17 + 13) (by omega)
      have f13 := hr2.row.frozen (k * 17 + 13)
      have o14 := hr2.row.cell (i := k * 17 + 14) (by omega)
      have f14 := hr2.row.frozen (k * 17 + 14)
      have o15 := hr2.row.cell (i := k * 17 + 15) (by omega)
      have f15 := hr2.row.frozen (k * 17 + 15)
      have o16 := hr2.row.cell (i := k * 17 + 16) (by omega)
      have f16 := hr2.row.frozen (k * 17 + 16)
      have HR2 : Hid (DoneDsTo w2 k w.heap.size w2.heap.size w.heap.size N S C) := hr2
      clear hr2
      go_wp2
      go_roundw
      case rel =>
        clear o0 f0 o1 f1 o2 f2 o3 f3 o4 f4 o5 f5 o6 f6 o7 f7 o8 f8 o9 f9 o10 f10 o11 f11 o12 f12 o13 f13 o14 f14 o15 f15 o16 f16
        obtain ⟨W, hW⟩ : ∃ W, W = setFrom w2 w.heap.size (k * 17) [.int .i64 (S k).who, .int .i64 (S k).kind, .string (S k).own, .int .i64 (S k).name, .slice (some ⟨llg, 0, none⟩) (S k).lgn (S k).lgn, .int .i64 (S k).pe, .int .i64 (S k).len, .int .i64 (S k).hei, .int .i64 (S k).cl, .bool (S k).all, .int .i64 (S k).be, .int .i64 (S k).unt, .int .i64 (S k).now, .int .i64 (S k).code, .int .i64 (S k).anam, .int .i64 (S k).price, .slice (some ⟨lrw, 0, none⟩) (S k).rwn (S k).rwn] := ⟨_, rfl⟩
        have hC : W = (((((((((((((((((w2.setCell ⟨w.heap.size, k * 17, none⟩ (.int .i64 (S k).who)).setCell ⟨w.heap.size, k * 17 + 1, none⟩ (.int .i64 (S k).kind)).setCell ⟨w.heap.size, k * 17 + 2, none⟩ (.string (S k).own)).setCell ⟨w.heap.size, k * 17 + 3, none⟩ (.int .i64 (S k).name)).setCell ⟨w.heap.size, k * 17 + 4, none⟩ (.slice (some ⟨llg, 0, none⟩) (S k).lgn (S k).lgn)).setCell ⟨w.heap.size, k * 17 + 5, none⟩ (.int .i64 (S k).pe)).setCell ⟨w.heap.size, k * 17 + 6, none⟩ (.int .i64 (S k).len)).setCell ⟨w.heap.size, k * 17 + 7, none⟩ (.int .i64 (S k).hei)).setCell ⟨w.heap.size, k * 17 + 8, none⟩ (.int .i64 (S k).cl)).setCell ⟨w.heap.size, k * 17 + 9, none⟩ (.bool (S k).all)).setCell ⟨w.heap.size, k * 17 + 10, none⟩ (.int .i64 (S k).be)).setCell ⟨w.heap.size, k * 17 + 11, none⟩ (.int .i64 (S k).unt)).setCell ⟨w.heap.size, k * 17 + 12, none⟩ (.int .i64 (S k).now)).setCell ⟨w.heap.size, k * 17 + 13, none⟩ (.int .i64 (S k).code)).setCell ⟨w.heap.size, k * 17 + 14, none⟩ (.int .i64 (S k).anam)).setCell ⟨w.heap.size, k * 17 + 15, none⟩ (.int .i64 (S k).price)).setCell ⟨w.heap.size, k * 17 + 16, none⟩ (.slice (some ⟨lrw, 0, none⟩) (S k).rwn (S k).rwn)) := by rw [hW]; rfl
        rw [← hC]
        clear hC
        have hk2 : Kept w2 W (fun x => x = w.heap.size) := by rw [hW]; exact setFrom_kept (S := fun x => x = w.heap.size) rfl _ _ _ (Kept.refl _ _)
        have hszW : W.heap.size = w2.heap.size := by rw [hW, setFrom_size]
        refine ⟨k + 1, fun i => if i = k then [.int .i64 (S k).who, .int .i64 (S k).kind, .string (S k).own, .int .i64 (S k).name, .slice (some ⟨llg, 0, none⟩) (S k).lgn (S k).lgn, .int .i64 (S k).pe, .int .i64 (S k).len, .int .i64 (S k).hei, .int .i64 (S k).cl, .bool (S k).all, .int .i64 (S k).be, .int .i64 (S k).unt, .int .i64 (S k).now, .int .i64 (S k).code, .int .i64 (S k).anam, .int .i64 (S k).price, .slice (some ⟨lrw, 0, none⟩) (S k).rwn (S k).rwn] else C i, by omega, by go_num, ⟨?_, Nat.le_refl _, by rw [hszW]; exact HR2.out.ghi, fun i hi => ?_⟩, by rw [hW]; exact setFrom_below (Nat.le_refl _) _ _ _ (after hbel hb2)⟩
        · rw [hW]
          refine rec_set HR2.out.row rfl (by decide) (fun i e => ?_) ?_
          · rw [upto_step _ _ _ _ e]; unfold upto; by_cases h : i < k
            · rw [if_pos h, if_pos h]; exact if_neg e
            · rw [if_neg h, if_neg h]
          · rw [upto_lt _ _ (Nat.lt_succ_self k)]; exact if_pos rfl
        · rw [hszW]
          by_cases e : i = k
          · subst e
            rw [if_pos rfl]
            exact (HIN.out.wide (by omega) (Nat.le_refl _)).kept hk2 (fun b h => by left; omega)
          · rw [if_neg e]
            exact (HR2.out.each i (by omega)).kept hk2 (fun b h => by left; omega)
      case measure => simp [intOf]; omega
    · obtain rfl : k = N := by omega
      go_wp2
      go_ret
      exact ⟨_, C, rfl, hrow, hbel⟩

set_option maxHeartbeats 3200000 in
set_option maxRecDepth 100000 in
/-- eqDoneS at two lists that are one. -/
theorem eqDoneS_same (ao bo : Option Addr) (N c1 c2 : Nat) (S : Nat → DoneD) (w : World) (hN : N ≤ 1048576) (hs : DoneDsShort N S 1048576) (hx : DoneDsAt w ao N S) (hy : DoneDsAt w bo N S) :
    Calls Try.prog 10 #[.slice ao N c1, .slice bo N c2] w fun e w' => e = .returned (.bool true) ∧ Below w.heap.size w w' := by
  have HS : Hid (DoneDsShort N S 1048576) := hs
  have HX : Hid (DoneDsAt w ao N S) := hx
  have HY : Hid (DoneDsAt w bo N S) := hy
  clear hs hx hy
  go_enter Try.func10, Try.ntmps10
  go_wp2
  go_loopw [5] (fun i wr => ∃ k : Nat, k ≤ N ∧ i = .int .i64 k ∧ Below w.heap.size w wr) (fun i _ => N - (intOf i).toNat)
  case atStart => exact ⟨0, Nat.zero_le _, rfl, Below.refl _ _⟩
  case round =>
    obtain ⟨k, hk, rfl, hbel⟩ := hrel
    by_cases hlt : k < N
    · obtain ⟨C, hC, hI⟩ := HX.out
      obtain ⟨D, hD, hJ⟩ := HY.out
      obtain ⟨b, off, rfl, hc⟩ := hC k hlt
      obtain ⟨b2, off2, rfl, hd⟩ := hD k hlt
      have HIK : Hid (DoneD.Is w (C k) (S k)) := hI k hlt
      have HJK : Hid (DoneD.Is w (D k) (S k)) := hJ k hlt
      obtain ⟨alg, clg, arw, crw, eC, hlg, slg, hrw, srw⟩ := hI k hlt
      obtain ⟨alg', clg', arw', crw', eD, hlg', slg', hrw', srw'⟩ := hJ k hlt
      have l1 : b < w.heap.size := World.block_lt_of_cell? w _ (hc 0 (by decide))
      have l2 : b2 < w.heap.size := World.block_lt_of_cell? w _ (hd 0 (by decide))
      have i1 : (0 : Int) ≤ (k : Int) := by omega
      have i2 : (k : Int) < (N : Int) := by omega
      have z0 : ∀ g : Grown wr, g.val.cell? ⟨b, off + k * 17, none⟩ = some (.int .i64 (S k).who) := fun g => ((hbel.trans (g.bel.mono hbel.size)).cell (p := ⟨b, off + k * 17, none⟩) l1).trans (by have := hc 0 (by decide); rw [eC] at this; exact this)
      have y0 : ∀ g : Grown wr, g.val.cell? ⟨b2, off2 + k * 17, none⟩ = some (.int .i64 (S k).who) := fun g => ((hbel.trans (g.bel.mono hbel.size)).cell (p := ⟨b2, off2 + k * 17, none⟩) l2).trans (by have := hd 0 (by decide); rw [eD] at this; exact this)
      have z1 : ∀ g : Grown wr, g.val.cell? ⟨b, off + k * 17 + 1, none⟩ = some (.int .i64 (S k).kind) := fun g => ((hbel.trans (g.bel.mono hbel.size)).cell (p := ⟨b, off + k * 17 + 1, none⟩) l1).trans (by have := hc 1 (by decide); rw [eC] at this; exact this)
      have y1 : ∀ g : Grown wr, g.val.cell? ⟨b2, off2 + k * 17 + 1, none⟩ = some (.int .i64 (S k).kind) := fun g => ((hbel.trans (g.bel.mono hbel.size)).cell (p := ⟨b2, off2 + k * 17 + 1, none⟩) l2).trans (by have := hd 1 (by decide); rw [eD] at this; exact this)
      have z2 : ∀ g : Grown wr, g.val.cell? ⟨b, off + k * 17 + 2, none⟩ = some (.string (S k).own) := fun g => ((hbel.trans (g.bel.mono hbel.size)).cell (p := ⟨b, off + k * 17 + 2, none⟩) l1).trans (by have := hc 2 (by decide); rw [eC] at this; exact this)
      have y2 : ∀ g : Grown wr, g.val.cell? ⟨b2, off2 + k * 17 + 2, none⟩ = some (.string (S k).own) := fun g => ((hbel.trans (g.bel.mono hbel.size)).cell (p := ⟨b2, off2 + k * 17 + 2, none⟩) l2).trans (by have := hd 2 (by decide); rw [eD] at this; exact this)
      have z3 : ∀ g : Grown wr, g.val.cell? ⟨b, off + k * 17 + 3, none⟩ = some (.int .i64 (S k).name) := fun g => ((hbel.trans (g.bel.mono hbel.size)).cell (p := ⟨b, off + k * 17 + 3, none⟩) l1).trans (by have := hc 3 (by decide); rw [eC] at this; exact this)
      have y3 : ∀ g : Grown wr, g.val.cell? ⟨b2, off2 + k * 17 + 3, none⟩ = some (.int .i64 (S k).name) := fun g => ((hbel.trans (g.bel.mono hbel.size)).cell (p := ⟨b2, off2 + k * 17 + 3, none⟩) l2).trans (by have := hd 3 (by decide); rw [eD] at this; exact this)
      have z4 : ∀ g : Grown wr, g.val.cell? ⟨b, off + k * 17 + 4, none⟩ = some (.slice alg (S k).lgn clg) := fun g => ((hbel.trans (g.bel.mono hbel.size)).cell (p := ⟨b, off + k * 17 + 4, none⟩) l1).trans (by have := hc 4 (by decide); rw [eC] at this; exact this)
      have y4 : ∀ g : Grown wr, g.val.cell? ⟨b2, off2 + k * 17 + 4, none⟩ = some (.slice alg' (S k).lgn clg') := fun g => ((hbel.trans (g.bel.mono hbel.size)).cell (p := ⟨b2, off2 + k * 17 + 4, none⟩) l2).trans (by have := hd 4 (by decide); rw [eD] at this; exact this)
      have z5 : ∀ g : Grown wr, g.val.cell? ⟨b, off + k * 17 + 5, none⟩ = some (.int .i64 (S k).pe) := fun g => ((hbel.trans (g.bel.mono hbel.size)).cell (p := ⟨b, off + k * 17 + 5, none⟩) l1).trans (by have := hc 5 (by decide); rw [eC] at this; exact this)
      have y5 : ∀ g : Grown wr, g.val.cell? ⟨b2, off2 + k * 17 + 5, none⟩ = some (.int .i64 (S k).pe) := fun g => ((hbel.trans (g.bel.mono hbel.size)).cell (p := ⟨b2, off2 + k * 17 + 5, none⟩) l2).trans (by have := hd 5 (by decide); rw [eD] at this; exact this)
      have z6 : ∀ g : Grown wr, g.val.cell? ⟨b, off + k * 17 + 6, none⟩ = some (.int .i64 (S k).len) := fun g => ((hbel.trans (g.bel.mono hbel.size)).cell (p := ⟨b, off + k * 17 + 6, none⟩) l1).trans (by have := hc 6 (by decide); rw [eC] at this; exact this)
      have y6 : ∀ g : Grown wr, g.val.cell? ⟨b2, off2 + k * 17 + 6, none⟩ = some (.int .i64 (S k).len) := fun g => ((hbel.trans (g.bel.mono hbel.size)).cell (p := ⟨b2, off2 + k * 17 + 6, none⟩) l2).trans (by have := hd 6 (by decide); rw [eD] at this; exact this)
      have z7 : ∀ g : Grown wr, g.val.cell? ⟨b, off + k * 17 + 7, none⟩ = some (.int .i64 (S k).hei) := fun g => ((hbel.trans (g.bel.mono hbel.size)).cell (p := ⟨b, off + k * 17 + 7, none⟩) l1).trans (by have := hc 7 (by decide); rw [eC] at this; exact this)
      have y7 : ∀ g : Grown wr, g.val.cell? ⟨b2, off2 + k * 17 + 7, none⟩ = some (.int .i64 (S k).hei) := fun g => ((hbel.trans (g.bel.mono hbel.size)).cell (p := ⟨b2, off2 + k * 17 + 7, none⟩) l2).trans (by have := hd 7 (by decide); rw [eD] at this; exact this)
      have z8 : ∀ g : Grown wr, g.val.cell? ⟨b, off + k * 17 + 8, none⟩ = some (.int .i64 (S k).cl) := fun g => ((hbel.trans (g.bel.mono hbel.size)).cell (p := ⟨b, off + k * 17 + 8, none⟩) l1).trans (by have := hc 8 (by decide); rw [eC] at this; exact this)
      have y8 : ∀ g : Grown wr, g.val.cell? ⟨b2, off2 + k * 17 + 8, none⟩ = some (.int .i64 (S k).cl) := fun g => ((hbel.trans (g.bel.mono hbel.size)).cell (p := ⟨b2, off2 + k * 17 + 8, none⟩) l2).trans (by have := hd 8 (by decide); rw [eD] at this; exact this)
      have z9 : ∀ g : Grown wr, g.val.cell? ⟨b, off + k * 17 + 9, none⟩ = some (.bool (S k).all) := fun g => ((hbel.trans (g.bel.mono hbel.size)).cell (p := ⟨b, off + k * 17 + 9, none⟩) l1).trans (by have := hc 9 (by decide); rw [eC] at this; exact this)
      have y9 : ∀ g : Grown wr, g.val.cell? ⟨b2, off2 + k * 17 + 9, none⟩ = some (.bool (S k).all) := fun g => ((hbel.trans (g.bel.mono hbel.size)).cell (p := ⟨b2, off2 + k * 17 + 9, none⟩) l2).trans (by have := hd 9 (by decide); rw [eD] at this; exact this)
      have z10 : ∀ g : Grown wr, g.val.cell? ⟨b, off + k * 17 + 10, none⟩ = some (.int .i64 (S k).be) := fun g => ((hbel.trans (g.bel.mono hbel.size)).cell (p := ⟨b, off + k * 17 + 10, none⟩) l1).trans (by have := hc 10 (by decide); rw [eC] at this; exact this)
      have y10 : ∀ g : Grown wr, g.val.cell? ⟨b2, off2 + k * 17 + 10, none⟩ = some (.int .i64 (S k).be) := fun g => ((hbel.trans (g.bel.mono hbel.size)).cell (p := ⟨b2, off2 + k * 17 + 10, none⟩) l2).trans (by have := hd 10 (by decide); rw [eD] at this; exact this)
      have z11 : ∀ g : Grown wr, g.val.cell? ⟨b, off + k * 17 + 11, none⟩ = some (.int .i64 (S k).unt) := fun g => ((hbel.trans (g.bel.mono hbel.size)).cell (p := ⟨b, off + k * 17 + 11, none⟩) l1).trans (by have := hc 11 (by decide); rw [eC] at this; exact this)
      have y11 : ∀ g : Grown wr, g.val.cell? ⟨b2, off2 + k * 17 + 11, none⟩ = some (.int .i64 (S k).unt) := fun g => ((hbel.trans (g.bel.mono hbel.size)).cell (p := ⟨b2, off2 + k * 17 + 11, none⟩) l2).trans (by have := hd 11 (by decide); rw [eD] at this; exact this)
      have z12 : ∀ g : Grown wr, g.val.cell? ⟨b, off + k * 17 + 12, none⟩ = some (.int .i64 (S k).now) := fun g => ((hbel.trans (g.bel.mono hbel.size)).cell (p := ⟨b, off + k * 17 + 12, none⟩) l1).trans (by have := hc 12 (by decide); rw [eC] at this; exact this)
      have y12 : ∀ g : Grown wr, g.val.cell? ⟨b2, off2 + k * 17 + 12, none⟩ = some (.int .i64 (S k).now) := fun g => ((hbel.trans (g.bel.mono hbel.size)).cell (p := ⟨b2, off2 + k * 17 + 12, none⟩) l2).trans (by have := hd 12 (by decide); rw [eD] at this; exact this)
      have z13 : ∀ g : Grown wr, g.val.cell? ⟨b, off + k * 17 + 13, none⟩ = some (.int .i64 (S k).code) := fun g => ((hbel.trans (g.bel.mono hbel.size)).cell (p := ⟨b, off + k * 17 + 13, none⟩) l1).trans (by have := hc 13 (by decide); rw [eC] at this; exact this)
      have y13 : ∀ g : Grown wr, g.val.cell? ⟨b2, off2 + k * 17 + 13, none⟩ = some (.int .i64 (S k).code) := fun g => ((hbel.trans (g.bel.mono hbel.size)).cell (p := ⟨b2, off2 + k * 17 + 13, none⟩) l2).trans (by have := hd 13 (by decide); rw [eD] at this; exact this)
      have z14 : ∀ g : Grown wr, g.val.cell? ⟨b, off + k * 17 + 14, none⟩ = some (.int .i64 (S k).anam) := fun g => ((hbel.trans (g.bel.mono hbel.size)).cell (p := ⟨b, off + k * 17 + 14, none⟩) l1).trans (by have := hc 14 (by decide); rw [eC] at this; exact this)
      have y14 : ∀ g : Grown wr, g.val.cell? ⟨b2, off2 + k * 17 + 14, none⟩ = some (.int .i64 (S k).anam) := fun g => ((hbel.trans (g.bel.mono hbel.size)).cell (p := ⟨b2, off2 + k * 17 + 14, none⟩) l2).trans (by have := hd 14 (by decide); rw [eD] at this; exact this)
      have z15 : ∀ g : Grown wr, g.val.cell? ⟨b, off + k * 17 + 15, none⟩ = some (.int .i64 (S k).price) := fun g => ((hbel.trans (g.bel.mono hbel.size)).cell (p := ⟨b, off + k * 17 + 15, none⟩) l1).trans (by have := hc 15 (by decide); rw [eC] at this; exact this)
      have y15 : ∀ g : Grown wr, g.val.cell? ⟨b2, off2 + k * 17 + 15, none⟩ = some (.int .i64 (S k).price) := fun g => ((hbel.trans (g.bel.mono hbel.size)).cell (p := ⟨b2, off2 + k * 17 + 15, none⟩) l2).trans (by have := hd 15 (by decide); rw [eD] at this; exact this)
      have z16 : ∀ g : Grown wr, g.val.cell? ⟨b, off + k * 17 + 16, none⟩ = some (.slice arw (S k).rwn crw) := fun g => ((hbel.trans (g.bel.mono hbel.size)).cell (p := ⟨b, off + k * 17 + 16, none⟩) l1).trans (by have := hc 16 (by decide); rw [eC] at this; exact this)
      have y16 : ∀ g : Grown wr, g.val.cell? ⟨b2, off2 + k * 17 + 16, none⟩ = some (.slice arw' (S k).rwn crw') := fun g => ((hbel.trans (g.bel.mono hbel.size)).cell (p := ⟨b2, off2 + k * 17 + 16, none⟩) l2).trans (by have := hd 16 (by decide); rw [eD] at this; exact this)
      have ZI : Hid (∀ g : Grown wr, DoneD.Is g.val [.int .i64 (S k).who, .int .i64 (S k).kind, .string (S k).own, .int .i64 (S k).name, .slice alg (S k).lgn clg, .int .i64 (S k).pe, .int .i64 (S k).len, .int .i64 (S k).hei, .int .i64 (S k).cl, .bool (S k).all, .int .i64 (S k).be, .int .i64 (S k).unt, .int .i64 (S k).now, .int .i64 (S k).code, .int .i64 (S k).anam, .int .i64 (S k).price, .slice arw (S k).rwn crw] (S k)) := fun g => by rw [← eC]; exact (HIK.out.below hbel).below g.bel
      have ZJ : Hid (∀ g : Grown wr, DoneD.Is g.val [.int .i64 (S k).who, .int .i64 (S k).kind, .string (S k).own, .int .i64 (S k).name, .slice alg' (S k).lgn clg', .int .i64 (S k).pe, .int .i64 (S k).len, .int .i64 (S k).hei, .int .i64 (S k).cl, .bool (S k).all, .int .i64 (S k).be, .int .i64 (S k).unt, .int .i64 (S k).now, .int .i64 (S k).code, .int .i64 (S k).anam, .int .i64 (S k).price, .slice arw' (S k).rwn crw'] (S k)) := fun g => by rw [← eD]; exact (HJK.out.below hbel).below g.bel
      have HSK : Hid (DoneD.Short (S k) 1048576) := HS.out k hlt
      clear hC hI hD hJ hc hd eC eD HIK HJK hlg slg hlg' slg' hrw srw hrw' srw'
      go_upto_region 6 with fail
      refine wp_region_grow (by kernel_rfl) (by kernel_rfl) ?_
      repeat (first | go_big_quiet_skip | (go_big_quiet_want; go_big_quiet_op; first | go_big_quiet_on | (apply Exists.intro; refine ⟨fun g => ?_, ?_⟩; (focus (first | (go_at_call 21; refine grown_call (v := .bool true) ((eqDone_same [.int .i64 (S k).who, .int .i64 (S k).kind, .string (S k).own, .int .i64 (S k).name, .slice alg (S k).lgn clg, .int .i64 (S k).pe, .int .i64 (S k).len, .int .i64 (S k).hei, .int .i64 (S k).cl, .bool (S k).all, .int .i64 (S k).be, .int .i64 (S k).unt, .int .i64 (S k).now, .int .i64 (S k).code, .int .i64 (S k).anam, .int .i64 (S k).price, .slice arw (S k).rwn crw] [.int .i64 (S k).who, .int .i64 (S k).kind, .string (S k).own, .int .i64 (S k).name, .slice alg' (S k).lgn clg', .int .i64 (S k).pe, .int .i64 (S k).len, .int .i64 (S k).hei, .int .i64 (S k).cl, .bool (S k).all, .int .i64 (S k).be, .int .i64 (S k).unt, .int .i64 (S k).now, .int .i64 (S k).code, .int .i64 (S k).anam, .int .i64 (S k).price, .slice arw' (S k).rwn crw'] (S k) _ HSK.out (ZI.out g) (ZJ.out g)).mono ?_); rintro e w2 ⟨rfl, hb2⟩; exact ⟨rfl, hb2⟩))); go_big_quiet_on)))
      refine wpQuiet_nil ?_
      rintro _ ⟨g, rfl⟩
      clear z0 y0 z1 y1 z2 y2 z3 y3 z4 y4 z5 y5 z6 y6 z7 y7 z8 y8 z9 y9 z10 y10 z11 y11 z12 y12 z13 y13 z14 y14 z15 y15 z16 y16
      go_wp2
      go_roundw
      case rel => exact ⟨k + 1, by omega, by go_num, after hbel g.bel⟩
      case measure => simp [intOf]; omega
    · go_wp2
      go_ret
      exact ⟨rfl, hbel⟩

end Go.Proofs.Ytcioofnmhfehaaa
