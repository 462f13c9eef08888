/-
  OWN TEXT: two records of the type Row held against each other; the contract of slices.Equal at lists of them.
-/
import Derived.Test.YtogbaoggebghdaaRows
import Derived.Test.YtogbaoggebghdaaKitMRow
import Derived.Test.YtogbaoggebghdaaKitG
import Derived.Deep.RegionHeld3
import Derived.Deep.DeepCutAuto
namespace Go.Proofs.Ytogbaoggebghdaa
open Go.RowKit Classical

theorem bytes_ext {a b : ByteArray} (h : a.toList = b.toList) : a = b := by
  rw [ByteArray.toList_eq, ByteArray.toList_eq] at h
  exact ByteArray.ext (Array.toList_inj.1 h)
set_option maxHeartbeats 800000 in
theorem row_neq (a b : MRow) (w : World) : (binOp .neq 84 (.agg #[.int .i64 a.name, .string a.own, .int .i64 a.pe, .int .i64 a.ln, .int .i64 a.cab]) (.agg #[.int .i64 b.name, .string b.own, .int .i64 b.pe, .int .i64 b.ln, .int .i64 b.cab])).run Try.prog w = .ok (.bool (!decide (a = b))) w := by
  obtain ⟨a0, a1, a2, a3, a4⟩ := a
  obtain ⟨b0, b1, b2, b3, b4⟩ := b
  simp only [MRow.mk.injEq]
  by_cases h0 : a0 = b0
  case neg => go_simp
  subst h0
  by_cases h1 : a1 = b1
  case neg => have hh : (a1.toList = b1.toList) = False := eq_false (fun e => h1 (bytes_ext e)); go_simp
  subst h1
  by_cases h2 : a2 = b2
  case neg => go_simp
  subst h2
  by_cases h3 : a3 = b3
  case neg => go_simp
  subst h3
  by_cases h4 : a4 = b4
  case neg => go_simp
  subst h4
  go_simp

/-- The first n of two lists are alike. -/
def rowsAlike (n m : Nat) (S T : Nat → MRow) : Prop := n = m ∧ ∀ i, i < n → S i = T i

set_option maxHeartbeats 1600000 in
set_option maxRecDepth 100000 in
theorem equalRow_any (ao bo : Option Addr) (n c m d : Nat) (S T : Nat → MRow) (w : World) (hn : n ≤ 1048576) (hm : m ≤ 1048576) (hx : MRowsAt w ao n S) (hy : MRowsAt w bo m T) :
    Calls Try.prog 87 #[.slice ao n c, .slice bo m d] w fun e w' => e = .returned (.bool (decide (rowsAlike n m S T))) ∧ Below w.heap.size w w' := by
  by_cases hnm : n = m
  case neg =>
    have e1 : decide (rowsAlike n m S T) = false := decide_eq_false (fun h => hnm h.1)
    rw [e1]
    have e2 : ((n : Int) = (m : Int)) = False := by simp; omega
    go_enter Try.func87, Try.ntmps87
    go_wp2
    go_ret
    exact ⟨rfl, Below.refl _ _⟩
  subst hnm
  have HX : Hid (MRowsAt w ao n S) := hx
  have HY : Hid (MRowsAt w bo n T) := hy
  clear hx hy
  obtain ⟨q, hq⟩ : ∃ q : Bool, q = decide (rowsAlike n n S T) := ⟨_, rfl⟩
  have HQ : Hid (q = true ↔ ∀ i, i < n → S i = T i) := by rw [hq]; exact ⟨fun h => (of_decide_eq_true h).2, fun h => decide_eq_true ⟨rfl, h⟩⟩
  rw [← hq]
  clear hq
  go_enter Try.func87, Try.ntmps87
  go_wp2
  go_loopw [5, 13] (fun _ i wr => ∃ k : Nat, k ≤ n ∧ i = .int .i64 k ∧ (∀ j, j < k → S j = T j) ∧ Below w.heap.size w wr) (fun _ i _ => n - (intOf i).toNat)
  case atStart => exact ⟨0, Nat.zero_le _, rfl, fun j hj => absurd hj (Nat.not_lt_zero _), Below.refl _ _⟩
  case round =>
    obtain ⟨k, hk, rfl, hal, hbel⟩ := hrel
    have HA : Hid (∀ j, j < k → S j = T j) := hal
    clear hal
    by_cases hlt : k < n
    · obtain ⟨b, off, rfl, g0, g1, g2, g3, g4⟩ := HX.out k hlt
      obtain ⟨b2, off2, rfl, f0, f1, f2, f3, f4⟩ := HY.out k hlt
      have l1 : b < w.heap.size := World.block_lt_of_cell? w _ g0
      have l2 : b2 < w.heap.size := World.block_lt_of_cell? w _ f0
      have i1 : (0 : Int) ≤ (k : Int) := by omega
      have i2 : (k : Int) < (n : Int) := by omega
      have z0 : ∀ g : Grown wr, g.val.cell? ⟨b, off + k * 5, none⟩ = some (.int .i64 (S k).name) := fun g => ((hbel.trans (g.bel.mono hbel.size)).cell (p := ⟨b, off + k * 5, none⟩) l1).trans g0
      have y0 : ∀ g : Grown wr, g.val.cell? ⟨b2, off2 + k * 5, none⟩ = some (.int .i64 (T k).name) := fun g => ((hbel.trans (g.bel.mono hbel.size)).cell (p := ⟨b2, off2 + k * 5, none⟩) l2).trans f0
      have z1 : ∀ g : Grown wr, g.val.cell? ⟨b, off + k * 5 + 1, none⟩ = some (.string (S k).own) := fun g => ((hbel.trans (g.bel.mono hbel.size)).cell (p := ⟨b, off + k * 5 + 1, none⟩) l1).trans g1
      have y1 : ∀ g : Grown wr, g.val.cell? ⟨b2, off2 + k * 5 + 1, none⟩ = some (.string (T k).own) := fun g => ((hbel.trans (g.bel.mono hbel.size)).cell (p := ⟨b2, off2 + k * 5 + 1, none⟩) l2).trans f1
      have z2 : ∀ g : Grown wr, g.val.cell? ⟨b, off + k * 5 + 2, none⟩ = some (.int .i64 (S k).pe) := fun g => ((hbel.trans (g.bel.mono hbel.size)).cell (p := ⟨b, off + k * 5 + 2, none⟩) l1).trans g2
      have y2 : ∀ g : Grown wr, g.val.cell? ⟨b2, off2 + k * 5 + 2, none⟩ = some (.int .i64 (T k).pe) := fun g => ((hbel.trans (g.bel.mono hbel.size)).cell (p := ⟨b2, off2 + k * 5 + 2, none⟩) l2).trans f2
      have z3 : ∀ g : Grown wr, g.val.cell? ⟨b, off + k * 5 + 3, none⟩ = some (.int .i64 (S k).ln) := fun g => ((hbel.trans (g.bel.mono hbel.size)).cell (p := ⟨b, off + k * 5 + 3, none⟩) l1).trans g3
      have y3 : ∀ g : Grown wr, g.val.cell? ⟨b2, off2 + k * 5 + 3, none⟩ = some (.int .i64 (T k).ln) := fun g => ((hbel.trans (g.bel.mono hbel.size)).cell (p := ⟨b2, off2 + k * 5 + 3, none⟩) l2).trans f3
      have z4 : ∀ g : Grown wr, g.val.cell? ⟨b, off + k * 5 + 4, none⟩ = some (.int .i64 (S k).cab) := fun g => ((hbel.trans (g.bel.mono hbel.size)).cell (p := ⟨b, off + k * 5 + 4, none⟩) l1).trans g4
      have y4 : ∀ g : Grown wr, g.val.cell? ⟨b2, off2 + k * 5 + 4, none⟩ = some (.int .i64 (T k).cab) := fun g => ((hbel.trans (g.bel.mono hbel.size)).cell (p := ⟨b2, off2 + k * 5 + 4, none⟩) l2).trans f4
      obtain ⟨p, hp⟩ : ∃ p : Bool, p = decide (S k = T k) := ⟨_, rfl⟩
      have qn := row_neq (S k) (T k)
      rw [← hp] at qn
      have HP : Hid (p = true ↔ S k = T k) := by rw [hp]; exact decide_eq_true_iff
      clear hp g0 f0 g1 f1 g2 f2 g3 f3 g4 f4
      go_upto_region 6 with fail
      refine wp_region_grow (by kernel_rfl) (by kernel_rfl) ?_
      repeat (first | go_big_quiet_skip | (go_big_quiet_want; go_big_quiet_op; go_big_quiet_on))
      refine wpQuiet_nil ?_
      rintro _ ⟨g, rfl⟩
      clear z0 y0 z1 y1 z2 y2 z3 y3 z4 y4 qn
      cases p with
      | true =>
        go_wp2
        go_roundw
        case rel =>
          refine ⟨k + 1, by omega, by go_num, fun j hj => ?_, after hbel g.bel⟩
          by_cases e : j = k
          · subst e; exact HP.out.1 rfl
          · exact HA.out j (by omega)
        case measure => simp [intOf]; omega
      | false =>
        have hqf : q = false := by
          cases q with
          | false => rfl
          | true => exact absurd (HP.out.2 (HQ.out.1 rfl k hlt)) (by decide)
        subst hqf
        go_wp2
        go_ret
        exact ⟨rfl, after hbel g.bel⟩
    · obtain rfl : k = n := by omega
      have hqt : q = true := HQ.out.2 HA.out
      subst hqt
      go_wp2
      go_ret
      exact ⟨rfl, hbel⟩

end Go.Proofs.Ytogbaoggebghdaa
