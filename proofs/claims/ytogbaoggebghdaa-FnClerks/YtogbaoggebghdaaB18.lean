/-
  OWN TEXT: StaffA, SpecAtC.
-/
import Derived.Deep.DeepCutAuto
import Derived.Deep.RegionHeld3
import Derived.Test.YtogbaoggebghdaaB10
import Derived.Test.YtogbaoggebghdaaB17
import Derived.Test.YtogbaoggebghdaaB09
import Derived.Test.YtogbaoggebghdaaB04
namespace Go.Proofs.Ytogbaoggebghdaa
open Go.RowKit Classical Go.MapKept Go.ChangeMaps

set_option maxHeartbeats 800000 in
set_option maxRecDepth 100000 in
theorem isOpen_any (w : World) (base sb mb K : Nat) (v : Value) (N : Nat) (S : Nat → ClkD) (R : Nat → Value) (O : ByteArray → Prop) (nm : ByteArray) (h : Staff w base sb mb K v N S R O) (hn : nm.size ≤ 1048576) :
    Calls Try.prog 49 #[.pointer (some ⟨sb, 0, none⟩), .string nm] w fun e w' => e = .returned (.bool (decide (O nm))) ∧ Below w.heap.size w w' := by
  obtain ⟨D, hm, hO⟩ := h.set
  have HM : Hid (w.ownsMap Try.prog 9 (unitElem (H := Unit)) mb K D) := hm
  have HE : Hid (Maps.has D (strLit nm) = decide (O nm)) := by
    show Maps.has D (strLit nm) = decide (O nm)
    rw [Bool.eq_iff_iff, hO nm, decide_eq_true_eq]
  have HK : Hid (keyOf Try.prog 9 (.string nm) = some (strLit nm)) := key_text hn
  have c1 := blk_cell h.blk 1 _ rfl
  clear h hm hO
  go_enter Try.func49, Try.ntmps49
  go_wp2_with (first | (at_lookup; refine wpList_lookup_own_unit _ (by rfl) _ _ 100 (by rfl) 9 101 Try.keyedS Try.underlying100 (Try.zeroValue101 _) mb K D (by rfl) HM.out _ _ (by rfl) HK.out ?_; rw [HE.out]))
  go_ret
  exact ⟨rfl, push (Below.refl _ _) _⟩

set_option maxHeartbeats 800000 in
set_option maxRecDepth 100000 in
theorem find_any (w : World) (base sb mb K : Nat) (v : Value) (N : Nat) (S : Nat → ClkD) (R : Nat → Value) (O : ByteArray → Prop) (nm : ByteArray) (h : Staff w base sb mb K v N S R O) (hN : N ≤ 60) (hk : NamesUp N S) :
    Calls Try.prog 69 #[.pointer (some ⟨sb, 0, none⟩), .string nm] w fun e w' => (∃ p : Nat, e = .returned (.tuple #[.int .i64 p, .bool (decide (p < N ∧ (S p).nam = nm))]) ∧ Hid (NameAt N S nm p)) ∧ Below w.heap.size w w' := by
  obtain ⟨ao, c, rfl, _⟩ := own_form h.own.row
  have HX : Hid (ClkDsAt w ao N S) := h.own.at
  have c0 := blk_cell h.blk 0 _ rfl
  clear h
  go_enter Try.func69, Try.ntmps69
  go_wp2_with fail
  refine (searchC_any ao N c S nm w hN hk HX.out).mono ?_
  rintro e w2 ⟨⟨p, rfl, hp⟩, hb⟩
  go_wp2
  exact bodyPost_ret (v := .tuple #[.int .i64 p, .bool (decide (p < N ∧ (S p).nam = nm))]) (by simp [results, Try.results69, go_sem]) rfl ⟨⟨p, rfl, hp⟩, hb⟩

end Go.Proofs.Ytogbaoggebghdaa

namespace Go.Proofs.Ytogbaoggebghdaa
open Go.RowKit Classical

/-- z is the place of the first of that name, or -1. -/
def AtC (N : Nat) (S : Nat → ClkD) (nm : ByteArray) (z : Int) : Prop :=
  (∃ k : Nat, k < N ∧ z = k ∧ (S k).nam = nm ∧ ∀ j, j < k → (S j).nam ≠ nm) ∨ (z = -1 ∧ ∀ j, j < N → (S j).nam ≠ nm)

set_option maxHeartbeats 1600000 in
set_option maxRecDepth 100000 in
theorem l10At_any (ao : Option Addr) (N c : Nat) (S : Nat → ClkD) (nm : ByteArray) (w : World) (hN : N ≤ 1048576) (hx : ClkDsAt w ao N S) :
    Calls Try.prog 35 #[.slice ao N c, .string nm] w fun e w' => (∃ z : Int, e = .returned (.int .i64 z) ∧ Hid (AtC N S nm z)) ∧ Below w.heap.size w w' := by
  have HX : Hid (ClkDsAt w ao N S) := hx
  clear hx
  go_enter Try.func35, Try.ntmps35
  go_wp2
  go_loopw [9] (fun i wr => ∃ k : Nat, k ≤ N ∧ i = .int .i64 k ∧ Hid (∀ j, j < k → (S j).nam ≠ nm) ∧ Below w.heap.size w wr) (fun i _ => N - (intOf i).toNat)
  case atStart => exact ⟨0, Nat.zero_le _, rfl, fun j hj => absurd hj (Nat.not_lt_zero _), Below.refl _ _⟩
  case round =>
    obtain ⟨k, hk, rfl, HA, hbel⟩ := hrel
    by_cases hlt : k < N
    · obtain ⟨C, hC, hI⟩ := HX.out
      obtain ⟨b, off, ea, hc⟩ := hC k hlt
      obtain ⟨arw, crw, eC, hrw, q1⟩ := hI k hlt
      have l1 : b < w.heap.size := World.block_lt_of_cell? w _ (hc 0 (by decide))
      subst ea
      have c0 : wr.cell? ⟨b, off + k * 7, none⟩ = some (.string (S k).nam) := (hbel.cell (p := ⟨b, off + k * 7, none⟩) l1).trans (by have := hc 0 (by decide); rw [eC] at this; exact this)
      have c1 : wr.cell? ⟨b, off + k * 7 + 1, none⟩ = some (.int .i64 (S k).num) := (hbel.cell (p := ⟨b, off + k * 7 + 1, none⟩) l1).trans (by have := hc 1 (by decide); rw [eC] at this; exact this)
      have c2 : wr.cell? ⟨b, off + k * 7 + 2, none⟩ = some (.bool (S k).opn) := (hbel.cell (p := ⟨b, off + k * 7 + 2, none⟩) l1).trans (by have := hc 2 (by decide); rw [eC] at this; exact this)
      have c3 : wr.cell? ⟨b, off + k * 7 + 3, none⟩ = some (.int .i64 (S k).code) := (hbel.cell (p := ⟨b, off + k * 7 + 3, none⟩) l1).trans (by have := hc 3 (by decide); rw [eC] at this; exact this)
      have c4 : wr.cell? ⟨b, off + k * 7 + 4, none⟩ = some (.int .i64 (S k).anam) := (hbel.cell (p := ⟨b, off + k * 7 + 4, none⟩) l1).trans (by have := hc 4 (by decide); rw [eC] at this; exact this)
      have c5 : wr.cell? ⟨b, off + k * 7 + 5, none⟩ = some (.int .i64 (S k).price) := (hbel.cell (p := ⟨b, off + k * 7 + 5, none⟩) l1).trans (by have := hc 5 (by decide); rw [eC] at this; exact this)
      have c6 : wr.cell? ⟨b, off + k * 7 + 6, none⟩ = some (.slice arw (S k).rwn crw) := (hbel.cell (p := ⟨b, off + k * 7 + 6, none⟩) l1).trans (by have := hc 6 (by decide); rw [eC] at this; exact this)
      clear hC hI hc eC hrw q1
      go_upto_region 4 with fail
      generalize hG : wr.alloc (.cells #[.string (S k).nam, .int .i64 (S k).num, .bool (S k).opn, .int .i64 (S k).code, .int .i64 (S k).anam, .int .i64 (S k).price, .slice arw (S k).rwn crw] 68) = W at *
      have bC : W.heap[wr.heap.size]? = some (.cells #[.string (S k).nam, .int .i64 (S k).num, .bool (S k).opn, .int .i64 (S k).code, .int .i64 (S k).anam, .int .i64 (S k).price, .slice arw (S k).rwn crw] 68 (0, 0)) := by rw [← hG]; exact heap_alloc_new _ _
      have hbw : Below w.heap.size w W := by rw [← hG]; exact push hbel _
      obtain ⟨cB, hcB⟩ : ∃ u, u = wr.heap.size := ⟨_, rfl⟩
      rw [← hcB] at bC ⊢
      clear hG hcB c0 c1 c2 c3 c4 c5 c6
      have z0 := blk_cell bC 0 _ rfl
      by_cases he : (S k).nam = nm
      · have hq : ((S k).nam.toList == nm.toList) = true := bytes_eq.2 he
        have HE : Hid ((S k).nam = nm) := he
        clear he
        go_wp2
        go_ret
        exact ⟨⟨_, rfl, .inl ⟨k, hlt, rfl, HE.out, HA.out⟩⟩, hbw⟩
      · have hq : ((S k).nam.toList == nm.toList) = false := bytes_ne.2 he
        have HE : Hid ((S k).nam ≠ nm) := he
        clear he
        go_wp2
        go_roundw
        case rel => exact ⟨k + 1, by omega, by go_num, fun j hj => if e : j = k then e ▸ HE.out else HA.out j (by omega), hbw⟩
        case measure => simp [intOf]; omega
    · obtain rfl : k = N := by omega
      go_wp2
      go_ret
      exact ⟨⟨_, rfl, .inr ⟨rfl, HA.out⟩⟩, hbel⟩

end Go.Proofs.Ytogbaoggebghdaa
