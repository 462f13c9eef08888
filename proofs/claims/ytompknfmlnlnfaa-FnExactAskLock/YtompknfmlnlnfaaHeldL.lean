/-
  OWN TEXT: the laws' helper heldLockS over locks that an answer owns and that markLockS has marked.
-/
import Derived.Test.YtompknfmlnlnfaaMarkL
import Derived.Test.YtompknfmlnlnfaaKitA
namespace Go.Proofs.Ytompknfmlnlnfaa
open Go.RowKit

theorem LocksOwn.below {w w' : World} {base N : Nat} {v : Value} {K : Nat → Int} {H Q : Nat → Line} {hs qs : Nat → Value} (L : LocksOwn w base N v K H Q hs qs) (hb : Below w.heap.size w w') : LocksOwn w' base N v K H Q hs qs :=
  ⟨own_below hb L.row, fun i hi => own_below hb (L.held i hi), fun i hi => own_below hb (L.queue i hi), L.hh, L.hq, L.qq⟩

set_option maxHeartbeats 1600000 in
set_option maxRecDepth 100000 in
theorem heldLockS_yes (ao : Option Addr) (N c base : Nat) (H Q : Nat → Line) (hs qs : Nat → Value) (w : World) (hN : N ≤ 1048576) (hsh : ShortTo N H Q 1048576) (L : LocksOwn w base N (.slice ao N c) (markPos H Q 1) (markH H Q 1) (markQ H Q 1) hs qs) :
    Calls Try.prog 21 #[.slice ao N c, .int .i64 1] w fun e w' => e = .returned (.int .i64 (markPos H Q 1 N)) ∧ Below w.heap.size w w' := by
  have HS : Hid (ShortTo N H Q 1048576) := hsh
  have HL : Hid (LocksOwn w base N (.slice ao N c) (markPos H Q 1) (markH H Q 1) (markQ H Q 1) hs qs) := L
  clear hsh L
  go_enter Try.func21, Try.ntmps21
  go_wp2
  go_loopw [1, 5] (fun r i wr => ∃ t : Nat, t ≤ N ∧ i = .int .i64 t ∧ r = .int .i64 (markPos H Q 1 t) ∧ Below w.heap.size w wr) (fun _ i _ => N - (intOf i).toNat)
  case atStart => exact ⟨0, Nat.zero_le _, rfl, rfl, Below.refl _ _⟩
  case round =>
    obtain ⟨t, ht, rfl, rfl, hbel⟩ := hrel
    have hlo := markPos_lo H Q 1 t
    have hhi := markPos_hi N H Q 1 HS.out t ht
    have HM : Hid (markPos H Q 1 (t + 1) = markPos H Q 1 t + 1 + 2 * (H t).n + 2 * (Q t).n) := rfl
    by_cases hlt : t < N
    · have hL := HL.out.below hbel
      obtain ⟨g, rfl, hg1, hg2⟩ := own_addr hL.row (by omega)
      have s1 := (HS.out t hlt).1
      have s2 := (HS.out t hlt).2
      have c0 := own_cell hL.row (t * 3) (by omega) rfl
      have c1 := own_cell hL.row (t * 3 + 1) (by omega) rfl
      have c2 := own_cell hL.row (t * 3 + 2) (by omega) rfl
      rw [lockCell_0] at c0
      rw [lockCell_1] at c1
      rw [lockCell_2] at c2
      have oh := hL.held t hlt
      have oq := hL.queue t hlt
      obtain ⟨ha, hc, eh, _⟩ := own_form oh
      obtain ⟨qa, qc, eq, _⟩ := own_form oq
      rw [eh] at c1 oh
      rw [eq] at c2 oq
      have OH : Hid (LineAt wr ha (markH H Q 1 t)) := line_of_own oh
      have OQ : Hid (LineAt wr qa (markQ H Q 1 t)) := line_of_own oq
      have e1 : (markH H Q 1 t).n = (H t).n := rfl
      have e2 : (markQ H Q 1 t).n = (Q t).n := rfl
      rw [e1] at c1
      rw [e2] at c2
      clear oh oq e1 e2 hL
      generalize hmp : markPos H Q 1 t = mp at *
      have HMP : Hid (markPos H Q 1 t = mp) := hmp
      clear hmp
      have hw1 : IntKind.i64.wrap (mp + 1) = mp + 1 := by rw [IntKind.wrap_i64]; omega
      go_wp2_with fail
      refine (heldAskedS_yes ha _ hc (mp + 1) _ s1 (by omega) (by omega) (by have := OH.out; unfold markH at this; rw [HMP.out] at this; exact this)).mono ?_
      rintro e w2 ⟨rfl, hb2⟩
      have q2 : w2.cell? ⟨g, t * 3 + 2, none⟩ = some (.slice qa (Q t).n qc) := (hb2.cell (p := ⟨g, t * 3 + 2, none⟩) (World.block_lt_of_cell? wr _ c2)).trans c2
      have d1 : decide (mp + 1 + 2 * ((H t).n : Int) < 0) = false := by simp; omega
      clear c0 c1 c2
      go_wp2_with fail
      refine (heldAskedS_yes qa _ qc (mp + 1 + 2 * (H t).n) _ s2 (by omega) (by omega) (by have := OQ.out; unfold markQ at this; rw [HMP.out] at this; exact this.below hb2)).mono ?_
      rintro e w3 ⟨rfl, hb3⟩
      have d2 : decide (mp + 1 + 2 * ((H t).n : Int) + 2 * ((Q t).n : Int) < 0) = false := by simp; omega
      have hb4 := after (after hbel hb2) hb3
      clear q2 d1 hb2 hb3 hbel
      go_wp2
      go_roundw
      case rel => exact ⟨t + 1, by omega, by go_num, by rw [HM.out], hb4⟩
      case measure => simp [intOf]; omega
    · obtain rfl : t = N := by omega
      go_wp2
      go_ret
      exact ⟨rfl, hbel⟩

end Go.Proofs.Ytompknfmlnlnfaa
