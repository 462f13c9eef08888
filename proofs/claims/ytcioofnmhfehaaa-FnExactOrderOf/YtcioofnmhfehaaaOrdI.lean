/-
  OWN TEXT: the contracts of spec.OrderOf and impl.OrderOf.
-/
import Derived.Test.YtcioofnmhfehaaaKitDone
import Derived.Test.YtcioofnmhfehaaaInfoI
import Derived.Deep.RegionHeld3
namespace Go.Proofs.Ytcioofnmhfehaaa
open Go.RowKit

/-- The Bys of what is done. -/
def bys (S : Nat → DoneD) (i : Nat) : Int := (S i).who

set_option maxHeartbeats 3200000 in
set_option maxRecDepth 100000 in
theorem specOrder_any (ao : Option Addr) (N c : Nat) (S : Nat → DoneD) (w : World) (hN : N ≤ 1048576) (hx : DoneDsAt w ao N S) :
    Calls Try.prog 6 #[.slice ao N c] w fun e w' => (∃ v, e = .returned v ∧ w'.ownsRow w.heap.size 3 1 v N (intList (bys S) N)) ∧ Below w.heap.size w w' := by
  obtain ⟨j0, ji, jz0, jz1, jz2⟩ := info_parts Try.infoInt
  have HX : Hid (DoneDsAt w ao N S) := hx
  clear hx
  go_enter Try.func6, Try.ntmps6
  go_wp2
  go_loopw [3, 8] (fun o i wr => ∃ k : Nat, k ≤ N ∧ i = .int .i64 k ∧ wr.ownsRow w.heap.size 3 1 o k (intList (bys S) k) ∧ Below w.heap.size w wr) (fun _ i _ => N - (intOf i).toNat)
  case atStart => exact ⟨0, Nat.zero_le _, rfl, World.ownsRow_nil _ _ _ _, Below.refl _ _⟩
  case round =>
    obtain ⟨k, hk, rfl, hown, hbel⟩ := hrel
    have hsz := hbel.size
    by_cases hlt : k < N
    · obtain ⟨C, hC, hI⟩ := HX.out
      obtain ⟨b, off, rfl, hc⟩ := hC k hlt
      obtain ⟨alg, clg, arw, crw, eC, _, _, _, _⟩ := hI k hlt
      have hb : b < w.heap.size := World.block_lt_of_cell? w _ (hc 0 (by decide))
      have c0 : wr.cell? ⟨b, off + k * 17, none⟩ = some (.int .i64 (S k).who) := (hbel.cell (p := ⟨b, off + k * 17, none⟩) hb).trans (by have := hc 0 (by decide); rw [eC] at this; exact this)
      have c1 : wr.cell? ⟨b, off + k * 17 + 1, none⟩ = some (.int .i64 (S k).kind) := (hbel.cell (p := ⟨b, off + k * 17 + 1, none⟩) hb).trans (by have := hc 1 (by decide); rw [eC] at this; exact this)
      have c2 : wr.cell? ⟨b, off + k * 17 + 2, none⟩ = some (.string (S k).own) := (hbel.cell (p := ⟨b, off + k * 17 + 2, none⟩) hb).trans (by have := hc 2 (by decide); rw [eC] at this; exact this)
      have c3 : wr.cell? ⟨b, off + k * 17 + 3, none⟩ = some (.int .i64 (S k).name) := (hbel.cell (p := ⟨b, off + k * 17 + 3, none⟩) hb).trans (by have := hc 3 (by decide); rw [eC] at this; exact this)
      have c4 : wr.cell? ⟨b, off + k * 17 + 4, none⟩ = some (.slice alg (S k).lgn clg) := (hbel.cell (p := ⟨b, off + k * 17 + 4, none⟩) hb).trans (by have := hc 4 (by decide); rw [eC] at this; exact this)
      have c5 : wr.cell? ⟨b, off + k * 17 + 5, none⟩ = some (.int .i64 (S k).pe) := (hbel.cell (p := ⟨b, off + k * 17 + 5, none⟩) hb).trans (by have := hc 5 (by decide); rw [eC] at this; exact this)
      have c6 : wr.cell? ⟨b, off + k * 17 + 6, none⟩ = some (.int .i64 (S k).len) := (hbel.cell (p := ⟨b, off + k * 17 + 6, none⟩) hb).trans (by have := hc 6 (by decide); rw [eC] at this; exact this)
      have c7 : wr.cell? ⟨b, off + k * 17 + 7, none⟩ = some (.int .i64 (S k).hei) := (hbel.cell (p := ⟨b, off + k * 17 + 7, none⟩) hb).trans (by have := hc 7 (by decide); rw [eC] at this; exact this)
      have c8 : wr.cell? ⟨b, off + k * 17 + 8, none⟩ = some (.int .i64 (S k).cl) := (hbel.cell (p := ⟨b, off + k * 17 + 8, none⟩) hb).trans (by have := hc 8 (by decide); rw [eC] at this; exact this)
      have c9 : wr.cell? ⟨b, off + k * 17 + 9, none⟩ = some (.bool (S k).all) := (hbel.cell (p := ⟨b, off + k * 17 + 9, none⟩) hb).trans (by have := hc 9 (by decide); rw [eC] at this; exact this)
      have c10 : wr.cell? ⟨b, off + k * 17 + 10, none⟩ = some (.int .i64 (S k).be) := (hbel.cell (p := ⟨b, off + k * 17 + 10, none⟩) hb).trans (by have := hc 10 (by decide); rw [eC] at this; exact this)
      have c11 : wr.cell? ⟨b, off + k * 17 + 11, none⟩ = some (.int .i64 (S k).unt) := (hbel.cell (p := ⟨b, off + k * 17 + 11, none⟩) hb).trans (by have := hc 11 (by decide); rw [eC] at this; exact this)
      have c12 : wr.cell? ⟨b, off + k * 17 + 12, none⟩ = some (.int .i64 (S k).now) := (hbel.cell (p := ⟨b, off + k * 17 + 12, none⟩) hb).trans (by have := hc 12 (by decide); rw [eC] at this; exact this)
      have c13 : wr.cell? ⟨b, off + k * 17 + 13, none⟩ = some (.int .i64 (S k).code) := (hbel.cell (p := ⟨b, off + k * 17 + 13, none⟩) hb).trans (by have := hc 13 (by decide); rw [eC] at this; exact this)
      have c14 : wr.cell? ⟨b, off + k * 17 + 14, none⟩ = some (.int .i64 (S k).anam) := (hbel.cell (p := ⟨b, off + k * 17 + 14, none⟩) hb).trans (by have := hc 14 (by decide); rw [eC] at this; exact this)
      have c15 : wr.cell? ⟨b, off + k * 17 + 15, none⟩ = some (.int .i64 (S k).price) := (hbel.cell (p := ⟨b, off + k * 17 + 15, none⟩) hb).trans (by have := hc 15 (by decide); rw [eC] at this; exact this)
      have c16 : wr.cell? ⟨b, off + k * 17 + 16, none⟩ = some (.slice arw (S k).rwn crw) := (hbel.cell (p := ⟨b, off + k * 17 + 16, none⟩) hb).trans (by have := hc 16 (by decide); rw [eC] at this; exact this)
      have HR : Hid (bys S k = (S k).who) := rfl
      clear hC hI hc eC
      go_upto_region 5 with fail
      generalize hB : wr.alloc (.cells #[.int .i64 (S k).who, .int .i64 (S k).kind, .string (S k).own, .int .i64 (S k).name, .slice alg (S k).lgn clg, .int .i64 (S k).pe, .int .i64 (S k).len, .int .i64 (S k).hei, .int .i64 (S k).cl, .bool (S k).all, .int .i64 (S k).be, .int .i64 (S k).unt, .int .i64 (S k).now, .int .i64 (S k).code, .int .i64 (S k).anam, .int .i64 (S k).price, .slice arw (S k).rwn crw] 57) = W at *
      have hbw : Below w.heap.size w W := by rw [← hB]; exact push hbel _
      have bB : W.heap[wr.heap.size]? = some (.cells #[.int .i64 (S k).who, .int .i64 (S k).kind, .string (S k).own, .int .i64 (S k).name, .slice alg (S k).lgn clg, .int .i64 (S k).pe, .int .i64 (S k).len, .int .i64 (S k).hei, .int .i64 (S k).cl, .bool (S k).all, .int .i64 (S k).be, .int .i64 (S k).unt, .int .i64 (S k).now, .int .i64 (S k).code, .int .i64 (S k).anam, .int .i64 (S k).price, .slice arw (S k).rwn crw] 57 (0, 0)) := by rw [← hB]; exact heap_alloc_new _ _
      have hoW : W.ownsRow w.heap.size 3 1 u3 k (intList (bys S) k) := by rw [← hB]; exact hown.alloc _
      have q0 := blk_cell bB 0 _ rfl
      clear hB c0 c1 c2 c3 c4 c5 c6 c7 c8 c9 c10 c11 c12 c13 c14 c15 c16
      have hsW := hbw.size
      go_wp2_with (first | (at_builtin; refine wpList_append_lies _ (by rfl) (.tmp 12) (.tmp 15) 24 (by rfl) w.heap.size 3 j0 (.int .i64 0) 1 8 Try.underlying24 ji jz0 jz1 jz2 rfl (by decide) _ k (intList (bys S) k) (by rfl) (hoW.alloc _) ⟨W.heap.size, 0, none⟩ 1 1 [.int .i64 (S k).who] (by rfl) (by rfl) (World.news_of_block (heap_alloc_new W _)) (by intro u hu; simp at hu; subst hu; rfl) (by decide) (by unfold maxLen; omega) (by omega) (by simp; omega) _ rfl ?_; intro g cap w1 hown1 hgrow hat hlt1))
      go_roundw
      case rel =>
        refine ⟨k + 1, by omega, by go_num, ?_, (push hbw _).grown hgrow (by simp; omega) (fun j hj => (hoW.lt j hj).1)⟩
        rw [intList_succ, HR.out]
        exact hown1
      case measure => simp [intOf]; omega
    · obtain rfl : k = N := by omega
      go_wp2
      go_ret
      exact ⟨⟨_, rfl, hown⟩, hbel⟩

set_option maxHeartbeats 3200000 in
set_option maxRecDepth 100000 in
theorem implOrder_any (ao : Option Addr) (N c : Nat) (S : Nat → DoneD) (w : World) (hN : N ≤ 1048576) (hx : DoneDsAt w ao N S) :
    Calls Try.prog 8 #[.slice ao N c] w fun e w' => (∃ v, e = .returned v ∧ w'.ownsRow w.heap.size 3 1 v N (intList (bys S) N)) ∧ Below w.heap.size w w' := by
  obtain ⟨j0, ji, jz0, jz1, jz2⟩ := info_parts Try.infoInt
  have HX : Hid (DoneDsAt w ao N S) := hx
  clear hx
  go_enter Try.func8, Try.ntmps8
  go_wp2
  go_loopw [3, 8] (fun o i wr => ∃ k : Nat, k ≤ N ∧ i = .int .i64 k ∧ wr.ownsRow w.heap.size 3 1 o k (intList (bys S) k) ∧ Below w.heap.size w wr) (fun _ i _ => N - (intOf i).toNat)
  case atStart => exact ⟨0, Nat.zero_le _, rfl, World.ownsRow_nil _ _ _ _, Below.refl _ _⟩
  case round =>
    obtain ⟨k, hk, rfl, hown, hbel⟩ := hrel
    have hsz := hbel.size
    by_cases hlt : k < N
    · obtain ⟨C, hC, hI⟩ := HX.out
      obtain ⟨b, off, rfl, hc⟩ := hC k hlt
      obtain ⟨alg, clg, arw, crw, eC, _, _, _, _⟩ := hI k hlt
      have hb : b < w.heap.size := World.block_lt_of_cell? w _ (hc 0 (by decide))
      have c0 : wr.cell? ⟨b, off + k * 17, none⟩ = some (.int .i64 (S k).who) := (hbel.cell (p := ⟨b, off + k * 17, none⟩) hb).trans (by have := hc 0 (by decide); rw [eC] at this; exact this)
      have c1 : wr.cell? ⟨b, off + k * 17 + 1, none⟩ = some (.int .i64 (S k).kind) := (hbel.cell (p := ⟨b, off + k * 17 + 1, none⟩) hb).trans (by have := hc 1 (by decide); rw [eC] at this; exact this)
      have c2 : wr.cell? ⟨b, off + k * 17 + 2, none⟩ = some (.string (S k).own) := (hbel.cell (p := ⟨b, off + k * 17 + 2, none⟩) hb).trans (by have := hc 2 (by decide); rw [eC] at this; exact this)
      have c3 : wr.cell? ⟨b, off + k * 17 + 3, none⟩ = some (.int .i64 (S k).name) := (hbel.cell (p := ⟨b, off + k * 17 + 3, none⟩) hb).trans (by have := hc 3 (by decide); rw [eC] at this; exact this)
      have c4 : wr.cell? ⟨b, off + k * 17 + 4, none⟩ = some (.slice alg (S k).lgn clg) := (hbel.cell (p := ⟨b, off + k * 17 + 4, none⟩) hb).trans (by have := hc 4 (by decide); rw [eC] at this; exact this)
      have c5 : wr.cell? ⟨b, off + k * 17 + 5, none⟩ = some (.int .i64 (S k).pe) := (hbel.cell (p := ⟨b, off + k * 17 + 5, none⟩) hb).trans (by have := hc 5 (by decide); rw [eC] at this; exact this)
      have c6 : wr.cell? ⟨b, off + k * 17 + 6, none⟩ = some (.int .i64 (S k).len) := (hbel.cell (p := ⟨b, off + k * 17 + 6, none⟩) hb).trans (by have := hc 6 (by decide); rw [eC] at this; exact this)
      have c7 : wr.cell? ⟨b, off + k * 17 + 7, none⟩ = some (.int .i64 (S k).hei) := (hbel.cell (p := ⟨b, off + k * 17 + 7, none⟩) hb).trans (by have := hc 7 (by decide); rw [eC] at this; exact this)
      have c8 : wr.cell? ⟨b, off + k * 17 + 8, none⟩ = some (.int .i64 (S k).cl) := (hbel.cell (p := ⟨b, off + k * 17 + 8, none⟩) hb).trans (by have := hc 8 (by decide); rw [eC] at this; exact this)
      have c9 : wr.cell? ⟨b, off + k * 17 + 9, none⟩ = some (.bool (S k).all) := (hbel.cell (p := ⟨b, off + k * 17 + 9, none⟩) hb).trans (by have := hc 9 (by decide); rw [eC] at this; exact this)
      have c10 : wr.cell? ⟨b, off + k * 17 + 10, none⟩ = some (.int .i64 (S k).be) := (hbel.cell (p := ⟨b, off + k * 17 + 10, none⟩) hb).trans (by have := hc 10 (by decide); rw [eC] at this; exact this)
      have c11 : wr.cell? ⟨b, off + k * 17 + 11, none⟩ = some (.int .i64 (S k).unt) := (hbel.cell (p := ⟨b, off + k * 17 + 11, none⟩) hb).trans (by have := hc 11 (by decide); rw [eC] at this; exact this)
      have c12 : wr.cell? ⟨b, off + k * 17 + 12, none⟩ = some (.int .i64 (S k).now) := (hbel.cell (p := ⟨b, off + k * 17 + 12, none⟩) hb).trans (by have := hc 12 (by decide); rw [eC] at this; exact this)
      have c13 : wr.cell? ⟨b, off + k * 17 + 13, none⟩ = some (.int .i64 (S k).code) := (hbel.cell (p := ⟨b, off + k * 17 + 13, none⟩) hb).trans (by have := hc 13 (by decide); rw [eC] at this; exact this)
      have c14 : wr.cell? ⟨b, off + k * 17 + 14, none⟩ = some (.int .i64 (S k).anam) := (hbel.cell (p := ⟨b, off + k * 17 + 14, none⟩) hb).trans (by have := hc 14 (by decide); rw [eC] at this; exact this)
      have c15 : wr.cell? ⟨b, off + k * 17 + 15, none⟩ = some (.int .i64 (S k).price) := (hbel.cell (p := ⟨b, off + k * 17 + 15, none⟩) hb).trans (by have := hc 15 (by decide); rw [eC] at this; exact this)
      have c16 : wr.cell? ⟨b, off + k * 17 + 16, none⟩ = some (.slice arw (S k).rwn crw) := (hbel.cell (p := ⟨b, off + k * 17 + 16, none⟩) hb).trans (by have := hc 16 (by decide); rw [eC] at this; exact this)
      have HR : Hid (bys S k = (S k).who) := rfl
      clear hC hI hc eC
      go_upto_region 5 with fail
      generalize hB : wr.alloc (.cells #[.int .i64 (S k).who, .int .i64 (S k).kind, .string (S k).own, .int .i64 (S k).name, .slice alg (S k).lgn clg, .int .i64 (S k).pe, .int .i64 (S k).len, .int .i64 (S k).hei, .int .i64 (S k).cl, .bool (S k).all, .int .i64 (S k).be, .int .i64 (S k).unt, .int .i64 (S k).now, .int .i64 (S k).code, .int .i64 (S k).anam, .int .i64 (S k).price, .slice arw (S k).rwn crw] 57) = W at *
      have hbw : Below w.heap.size w W := by rw [← hB]; exact push hbel _
      have bB : W.heap[wr.heap.size]? = some (.cells #[.int .i64 (S k).who, .int .i64 (S k).kind, .string (S k).own, .int .i64 (S k).name, .slice alg (S k).lgn clg, .int .i64 (S k).pe, .int .i64 (S k).len, .int .i64 (S k).hei, .int .i64 (S k).cl, .bool (S k).all, .int .i64 (S k).be, .int .i64 (S k).unt, .int .i64 (S k).now, .int .i64 (S k).code, .int .i64 (S k).anam, .int .i64 (S k).price, .slice arw (S k).rwn crw] 57 (0, 0)) := by rw [← hB]; exact heap_alloc_new _ _
      have hoW : W.ownsRow w.heap.size 3 1 u3 k (intList (bys S) k) := by rw [← hB]; exact hown.alloc _
      have q0 := blk_cell bB 0 _ rfl
      clear hB c0 c1 c2 c3 c4 c5 c6 c7 c8 c9 c10 c11 c12 c13 c14 c15 c16
      have hsW := hbw.size
      go_wp2_with (first | (at_builtin; refine wpList_append_lies _ (by rfl) (.tmp 12) (.tmp 15) 24 (by rfl) w.heap.size 3 j0 (.int .i64 0) 1 8 Try.underlying24 ji jz0 jz1 jz2 rfl (by decide) _ k (intList (bys S) k) (by rfl) (hoW.alloc _) ⟨W.heap.size, 0, none⟩ 1 1 [.int .i64 (S k).who] (by rfl) (by rfl) (World.news_of_block (heap_alloc_new W _)) (by intro u hu; simp at hu; subst hu; rfl) (by decide) (by unfold maxLen; omega) (by omega) (by simp; omega) _ rfl ?_; intro g cap w1 hown1 hgrow hat hlt1))
      go_roundw
      case rel =>
        refine ⟨k + 1, by omega, by go_num, ?_, (push hbw _).grown hgrow (by simp; omega) (fun j hj => (hoW.lt j hj).1)⟩
        rw [intList_succ, HR.out]
        exact hown1
      case measure => simp [intOf]; omega
    · obtain rfl : k = N := by omega
      go_wp2
      go_ret
      exact ⟨⟨_, rfl, hown⟩, hbel⟩

end Go.Proofs.Ytcioofnmhfehaaa
