/-
  OWN TEXT: EqPair, Kit2, KitStay.
-/
import Derived.Test.YtcioofnmhfehaaaGreatRows
import Derived.Deep.RegionHeld3
import Derived.Deep.DeepCutAuto
import Derived.Test.YtcioofnmhfehaaaGreatB00
namespace Go.Proofs.YtcioofnmhfehaaaGreat
open Go.RowKit Classical

def PairsAlike (p q : Pairs) : Prop := p.n = q.n ∧ ∀ i, i < p.n → p.A i = q.A i ∧ p.B i = q.B i

theorem lane_neq (a0 a1 b0 b1 : Int) (w : World) : (binOp .neq 93 (.agg #[.int .i64 a0, .int .i64 a1]) (.agg #[.int .i64 b0, .int .i64 b1])).run Tryz.prog w = .ok (.bool (!decide (a0 = b0 ∧ a1 = b1))) w := by
  by_cases h0 : a0 = b0
  case neg => go_simp
  subst h0
  by_cases h1 : a1 = b1
  case neg => go_simp
  subst h1
  go_simp

set_option maxHeartbeats 1600000 in
set_option maxRecDepth 100000 in
theorem equalLane_any (ao bo : Option Addr) (c d : Nat) (S T : Pairs) (w : World) (hn : S.n ≤ 1048576) (hm : T.n ≤ 1048576) (hx : PairsAt w ao S) (hy : PairsAt w bo T) :
    Calls Tryz.prog 71 #[.slice ao S.n c, .slice bo T.n d] w fun e w' => e = .returned (.bool (decide (PairsAlike S T))) ∧ Below w.heap.size w w' := by
  obtain ⟨n, A, B⟩ := S
  obtain ⟨m, C, D⟩ := T
  have hn : n ≤ 1048576 := hn
  have hm : m ≤ 1048576 := hm
  show Calls Tryz.prog 71 #[.slice ao n c, .slice bo m d] w _
  by_cases hnm : n = m
  case neg =>
    have e1 : decide (PairsAlike ⟨n, A, B⟩ ⟨m, C, D⟩) = false := decide_eq_false (fun h => hnm h.1)
    rw [e1]
    have e2 : ((n : Int) = (m : Int)) = False := by simp; omega
    go_enter Tryz.func71, Tryz.ntmps71
    go_wp2
    go_ret
    exact ⟨rfl, Below.refl _ _⟩
  subst hnm
  have HX : Hid (PairsAt w ao ⟨n, A, B⟩) := hx
  have HY : Hid (PairsAt w bo ⟨n, C, D⟩) := hy
  clear hx hy
  obtain ⟨q, hq⟩ : ∃ q : Bool, q = decide (PairsAlike ⟨n, A, B⟩ ⟨n, C, D⟩) := ⟨_, rfl⟩
  have HQ : Hid (q = true ↔ ∀ i, i < n → A i = C i ∧ B i = D i) := by rw [hq]; exact ⟨fun h => (of_decide_eq_true h).2, fun h => decide_eq_true ⟨rfl, h⟩⟩
  rw [← hq]
  clear hq
  go_enter Tryz.func71, Tryz.ntmps71
  go_wp2
  go_loopw [5, 13] (fun _ i wr => ∃ k : Nat, k ≤ n ∧ i = .int .i64 k ∧ (∀ j, j < k → A j = C j ∧ B j = D j) ∧ Below w.heap.size w wr) (fun _ i _ => n - (intOf i).toNat)
  case atStart => exact ⟨0, Nat.zero_le _, rfl, fun j hj => absurd hj (Nat.not_lt_zero _), Below.refl _ _⟩
  case round =>
    obtain ⟨k, hk, rfl, hal, hbel⟩ := hrel
    have HA : Hid (∀ j, j < k → A j = C j ∧ B j = D j) := hal
    clear hal
    by_cases hlt : k < n
    · obtain ⟨b, off, rfl, g0, g1⟩ := HX.out k hlt
      obtain ⟨b2, off2, rfl, f0, f1⟩ := HY.out k hlt
      have l1 : b < w.heap.size := World.block_lt_of_cell? w _ g0
      have l2 : b2 < w.heap.size := World.block_lt_of_cell? w _ f0
      have i1 : (0 : Int) ≤ (k : Int) := by omega
      have i2 : (k : Int) < (n : Int) := by omega
      have z0 : ∀ g : Grown wr, g.val.cell? ⟨b, off + k * 2, none⟩ = some (.int .i64 (A k)) := fun g => ((hbel.trans (g.bel.mono hbel.size)).cell (p := ⟨b, off + k * 2, none⟩) l1).trans g0
      have z1 : ∀ g : Grown wr, g.val.cell? ⟨b, off + k * 2 + 1, none⟩ = some (.int .i64 (B k)) := fun g => ((hbel.trans (g.bel.mono hbel.size)).cell (p := ⟨b, off + k * 2 + 1, none⟩) l1).trans g1
      have y0 : ∀ g : Grown wr, g.val.cell? ⟨b2, off2 + k * 2, none⟩ = some (.int .i64 (C k)) := fun g => ((hbel.trans (g.bel.mono hbel.size)).cell (p := ⟨b2, off2 + k * 2, none⟩) l2).trans f0
      have y1 : ∀ g : Grown wr, g.val.cell? ⟨b2, off2 + k * 2 + 1, none⟩ = some (.int .i64 (D k)) := fun g => ((hbel.trans (g.bel.mono hbel.size)).cell (p := ⟨b2, off2 + k * 2 + 1, none⟩) l2).trans f1
      obtain ⟨p, hp⟩ : ∃ p : Bool, p = decide (A k = C k ∧ B k = D k) := ⟨_, rfl⟩
      have qn := lane_neq (A k) (B k) (C k) (D k)
      rw [← hp] at qn
      have HP : Hid (p = true ↔ A k = C k ∧ B k = D k) := by rw [hp]; exact decide_eq_true_iff
      clear hp g0 f0 g1 f1
      go_upto_region 6 with fail
      refine wp_region_grow (by kernel_rfl) (by kernel_rfl) ?_
      repeat (first | go_big_quiet_skip | (go_big_quiet_want; go_big_quiet_op; go_big_quiet_on))
      refine wpQuiet_nil ?_
      rintro _ ⟨g, rfl⟩
      clear z0 y0 z1 y1 qn
      cases p with
      | true =>
        go_wp2
        go_roundw
        case rel =>
          refine ⟨k + 1, by omega, by go_num, fun j hj => ?_, after hbel g.bel⟩
          by_cases e : j = k
          · subst e; exact HP.out.1 rfl
          · exact HA.out j (by omega)
        case measure => simp [intOf]; omega
      | false =>
        have hqf : q = false := by
          cases q with
          | false => rfl
          | true => exact absurd (HP.out.2 (HQ.out.1 rfl k hlt)) (by decide)
        subst hqf
        go_wp2
        go_ret
        exact ⟨rfl, after hbel g.bel⟩
    · obtain rfl : k = n := by omega
      have hqt : q = true := HQ.out.2 HA.out
      subst hqt
      go_wp2
      go_ret
      exact ⟨rfl, hbel⟩

theorem cabin_neq (a0 a1 b0 b1 : Int) (w : World) : (binOp .neq 95 (.agg #[.int .i64 a0, .int .i64 a1]) (.agg #[.int .i64 b0, .int .i64 b1])).run Tryz.prog w = .ok (.bool (!decide (a0 = b0 ∧ a1 = b1))) w := by
  by_cases h0 : a0 = b0
  case neg => go_simp
  subst h0
  by_cases h1 : a1 = b1
  case neg => go_simp
  subst h1
  go_simp

set_option maxHeartbeats 1600000 in
set_option maxRecDepth 100000 in
theorem equalCabin_any (ao bo : Option Addr) (c d : Nat) (S T : Pairs) (w : World) (hn : S.n ≤ 1048576) (hm : T.n ≤ 1048576) (hx : PairsAt w ao S) (hy : PairsAt w bo T) :
    Calls Tryz.prog 72 #[.slice ao S.n c, .slice bo T.n d] w fun e w' => e = .returned (.bool (decide (PairsAlike S T))) ∧ Below w.heap.size w w' := by
  obtain ⟨n, A, B⟩ := S
  obtain ⟨m, C, D⟩ := T
  have hn : n ≤ 1048576 := hn
  have hm : m ≤ 1048576 := hm
  show Calls Tryz.prog 72 #[.slice ao n c, .slice bo m d] w _
  by_cases hnm : n = m
  case neg =>
    have e1 : decide (PairsAlike ⟨n, A, B⟩ ⟨m, C, D⟩) = false := decide_eq_false (fun h => hnm h.1)
    rw [e1]
    have e2 : ((n : Int) = (m : Int)) = False := by simp; omega
    go_enter Tryz.func72, Tryz.ntmps72
    go_wp2
    go_ret
    exact ⟨rfl, Below.refl _ _⟩
  subst hnm
  have HX : Hid (PairsAt w ao ⟨n, A, B⟩) := hx
  have HY : Hid (PairsAt w bo ⟨n, C, D⟩) := hy
  clear hx hy
  obtain ⟨q, hq⟩ : ∃ q : Bool, q = decide (PairsAlike ⟨n, A, B⟩ ⟨n, C, D⟩) := ⟨_, rfl⟩
  have HQ : Hid (q = true ↔ ∀ i, i < n → A i = C i ∧ B i = D i) := by rw [hq]; exact ⟨fun h => (of_decide_eq_true h).2, fun h => decide_eq_true ⟨rfl, h⟩⟩
  rw [← hq]
  clear hq
  go_enter Tryz.func72, Tryz.ntmps72
  go_wp2
  go_loopw [5, 13] (fun _ i wr => ∃ k : Nat, k ≤ n ∧ i = .int .i64 k ∧ (∀ j, j < k → A j = C j ∧ B j = D j) ∧ Below w.heap.size w wr) (fun _ i _ => n - (intOf i).toNat)
  case atStart => exact ⟨0, Nat.zero_le _, rfl, fun j hj => absurd hj (Nat.not_lt_zero _), Below.refl _ _⟩
  case round =>
    obtain ⟨k, hk, rfl, hal, hbel⟩ := hrel
    have HA : Hid (∀ j, j < k → A j = C j ∧ B j = D j) := hal
    clear hal
    by_cases hlt : k < n
    · obtain ⟨b, off, rfl, g0, g1⟩ := HX.out k hlt
      obtain ⟨b2, off2, rfl, f0, f1⟩ := HY.out k hlt
      have l1 : b < w.heap.size := World.block_lt_of_cell? w _ g0
      have l2 : b2 < w.heap.size := World.block_lt_of_cell? w _ f0
      have i1 : (0 : Int) ≤ (k : Int) := by omega
      have i2 : (k : Int) < (n : Int) := by omega
      have z0 : ∀ g : Grown wr, g.val.cell? ⟨b, off + k * 2, none⟩ = some (.int .i64 (A k)) := fun g => ((hbel.trans (g.bel.mono hbel.size)).cell (p := ⟨b, off + k * 2, none⟩) l1).trans g0
      have z1 : ∀ g : Grown wr, g.val.cell? ⟨b, off + k * 2 + 1, none⟩ = some (.int .i64 (B k)) := fun g => ((hbel.trans (g.bel.mono hbel.size)).cell (p := ⟨b, off + k * 2 + 1, none⟩) l1).trans g1
      have y0 : ∀ g : Grown wr, g.val.cell? ⟨b2, off2 + k * 2, none⟩ = some (.int .i64 (C k)) := fun g => ((hbel.trans (g.bel.mono hbel.size)).cell (p := ⟨b2, off2 + k * 2, none⟩) l2).trans f0
      have y1 : ∀ g : Grown wr, g.val.cell? ⟨b2, off2 + k * 2 + 1, none⟩ = some (.int .i64 (D k)) := fun g => ((hbel.trans (g.bel.mono hbel.size)).cell (p := ⟨b2, off2 + k * 2 + 1, none⟩) l2).trans f1
      obtain ⟨p, hp⟩ : ∃ p : Bool, p = decide (A k = C k ∧ B k = D k) := ⟨_, rfl⟩
      have qn := cabin_neq (A k) (B k) (C k) (D k)
      rw [← hp] at qn
      have HP : Hid (p = true ↔ A k = C k ∧ B k = D k) := by rw [hp]; exact decide_eq_true_iff
      clear hp g0 f0 g1 f1
      go_upto_region 6 with fail
      refine wp_region_grow (by kernel_rfl) (by kernel_rfl) ?_
      repeat (first | go_big_quiet_skip | (go_big_quiet_want; go_big_quiet_op; go_big_quiet_on))
      refine wpQuiet_nil ?_
      rintro _ ⟨g, rfl⟩
      clear z0 y0 z1 y1 qn
      cases p with
      | true =>
        go_wp2
        go_roundw
        case rel =>
          refine ⟨k + 1, by omega, by go_num, fun j hj => ?_, after hbel g.bel⟩
          by_cases e : j = k
          · subst e; exact HP.out.1 rfl
          · exact HA.out j (by omega)
        case measure => simp [intOf]; omega
      | false =>
        have hqf : q = false := by
          cases q with
          | false => rfl
          | true => exact absurd (HP.out.2 (HQ.out.1 rfl k hlt)) (by decide)
        subst hqf
        go_wp2
        go_ret
        exact ⟨rfl, after hbel g.bel⟩
    · obtain rfl : k = n := by omega
      have hqt : q = true := HQ.out.2 HA.out
      subst hqt
      go_wp2
      go_ret
      exact ⟨rfl, hbel⟩

end Go.Proofs.YtcioofnmhfehaaaGreat

namespace Go.Proofs.YtcioofnmhfehaaaGreat
open Go.RowKit

theorem blk_drew {w : World} {b : Nat} {o : Obj} (h : w.heap[b]? = some o) : w.drew.heap[b]? = some o := h

/-- w' is w with new blocks, and with writes to blocks of S alone. -/
structure Kept (w w' : World) (S : Nat → Prop) : Prop where
  os : w'.os = w.os
  tape : w'.tape = w.tape
  output : w'.output = w.output
  size : w.heap.size ≤ w'.heap.size
  block : ∀ k, k < w.heap.size → ¬ S k → w'.heap[k]? = w.heap[k]?

theorem Kept.refl (w : World) (S : Nat → Prop) : Kept w w S := ⟨rfl, rfl, rfl, Nat.le_refl _, fun _ _ _ => rfl⟩
theorem Kept.trans {w w' w'' : World} {S : Nat → Prop} (h : Kept w w' S) (k : Kept w' w'' S) : Kept w w'' S :=
  ⟨k.os.trans h.os, k.tape.trans h.tape, k.output.trans h.output, Nat.le_trans h.size k.size, fun i hi hs => (k.block i (Nat.lt_of_lt_of_le hi h.size) hs).trans (h.block i hi hs)⟩
theorem Kept.mono {w w' : World} {S T : Nat → Prop} (h : Kept w w' S) (hs : ∀ k, S k → T k) : Kept w w' T := ⟨h.os, h.tape, h.output, h.size, fun i hi ht => h.block i hi fun s => ht (hs i s)⟩
theorem Kept.of_below {w w' : World} {S : Nat → Prop} (h : Below w.heap.size w w') : Kept w w' S := ⟨h.os, h.tape, h.output, h.size, fun i hi _ => h.block i hi⟩
theorem Kept.set {w w' : World} {S : Nat → Prop} (h : Kept w w' S) {a : Addr} (ha : S a.block) (u : Value) : Kept w (w'.setCell a u) S :=
  h.trans ⟨rfl, rfl, rfl, by simp, fun k _ hk => Below.heap_setCell _ _ _ _ (fun e => hk (e ▸ ha))⟩
theorem Kept.below {B : Nat} {w0 w w' : World} {S : Nat → Prop} (h0 : Below B w0 w) (hB : B ≤ w.heap.size) (h : Kept w w' S) (hS : ∀ k, S k → B ≤ k) : Below B w0 w' :=
  h0.trans ⟨h.os, h.tape, h.output, h.size, fun k hk => h.block k (by omega) (fun s => by have := hS k s; omega)⟩
theorem Kept.blk {w w' : World} {S : Nat → Prop} (h : Kept w w' S) {b : Nat} {o : Obj} (hb : w.heap[b]? = some o) (hs : ¬ S b) : w'.heap[b]? = some o := (h.block b (blk_lt hb) hs).trans hb
theorem Kept.own {w w' : World} {S : Nat → Prop} (h : Kept w w' S) {base e size n : Nat} {v : Value} {xs : List Value} (ho : w.ownsRow base e size v n xs) (hs : ∀ g, v.ownBlock = some g → ¬ S g) : w'.ownsRow base e size v n xs := by
  refine ⟨ho.1, ?_⟩
  rcases ho.2 with h0 | ⟨g, cap, cur, rfl, hb, hg, rest⟩
  · exact .inl h0
  · exact .inr ⟨g, cap, cur, rfl, hb, h.blk hg (hs g rfl), rest⟩
theorem own_below {w w' : World} (h : Below w.heap.size w w') {base e size n : Nat} {v : Value} {xs : List Value} (ho : w.ownsRow base e size v n xs) : w'.ownsRow base e size v n xs :=
  (Kept.of_below (S := fun _ => False) h).own ho (fun _ _ h => h)

/-- Two owned rows of different element types lie in different blocks. -/
theorem own_apart {w : World} {b1 e1 s1 n1 b2 e2 s2 n2 : Nat} {v1 v2 : Value} {x1 x2 : List Value} (h1 : w.ownsRow b1 e1 s1 v1 n1 x1) (h2 : w.ownsRow b2 e2 s2 v2 n2 x2) (hne : e1 ≠ e2) : ∀ g, v1.ownBlock = some g → v2.ownBlock ≠ some g := by
  intro g hg1 hg2
  rcases h1.2 with ⟨rfl, _⟩ | ⟨g1, c1, r1, rfl, _, k1, _⟩
  · simp [Value.ownBlock] at hg1
  · rcases h2.2 with ⟨rfl, _⟩ | ⟨g2, c2, r2, rfl, _, k2, _⟩
    · simp [Value.ownBlock] at hg2
    · simp only [Value.ownBlock, Option.some.injEq] at hg1 hg2
      subst hg1
      subst hg2
      rw [k1] at k2
      simp at k2
      exact hne k2.2

/-- A row that is known whole, as an owned one. -/
theorem own_of_row {w : World} {g e n size base : Nat} {f : Nat → Value} (h : w.rowIs g e (n * size) f) (hb : base ≤ g) (hn : n ≤ maxLen) : w.ownsRow base e size (.slice (some ⟨g, 0, none⟩) n n) n ((List.range (n * size)).map f) := by
  obtain ⟨c, hg, hs, hc⟩ := h
  refine ⟨by simp, .inr ⟨g, n, c, rfl, hb, hg, Nat.le_refl _, hn, hs, ?_⟩⟩
  apply List.ext_getElem?
  intro i
  rw [List.getElem?_take]
  by_cases hi : i < n * size
  · rw [if_pos hi, List.getElem?_map, List.getElem?_range hi, Array.getElem?_toList, hc i hi]; rfl
  · rw [if_neg hi, List.getElem?_eq_none (by simpa using hi)]

theorem range_set {N j : Nat} {f : Nat → Value} {u : Value} : ((List.range N).map f).set j u = (List.range N).map (fun i => if i = j then u else f i) := by
  apply List.ext_getElem?
  intro i
  rw [List.getElem?_set, List.getElem?_map, List.getElem?_map, List.length_map, List.length_range]
  by_cases hi : i < N
  · rw [List.getElem?_range hi]
    by_cases e : j = i
    · subst e; simp [hi]
    · rw [if_neg e]; simp [show ¬ i = j from fun h => e h.symm]
  · rw [List.getElem?_eq_none (l := List.range N) (by simpa using hi)]
    by_cases e : j = i
    · subst e; simp [hi]
    · rw [if_neg e]; rfl
theorem own_store {w : World} {base e size g n cap N : Nat} {f : Nat → Value} (h : w.ownsRow base e size (.slice (some ⟨g, 0, none⟩) n cap) n ((List.range N).map f)) (j : Nat) (u : Value) :
    (w.setCell ⟨g, j, none⟩ u).ownsRow base e size (.slice (some ⟨g, 0, none⟩) n cap) n ((List.range N).map (fun i => if i = j then u else f i)) := by
  have := (h.stored j u).1
  rwa [range_set] at this
theorem own_congr {w : World} {base e size n N : Nat} {v : Value} {f f' : Nat → Value} (h : w.ownsRow base e size v n ((List.range N).map f)) (hf : ∀ i, i < N → f i = f' i) : w.ownsRow base e size v n ((List.range N).map f') := by
  have : (List.range N).map f = (List.range N).map f' := List.map_congr_left fun i hi => hf i (by simpa using hi)
  rwa [this] at h
theorem own_cell {w : World} {base e size g n cap N : Nat} {f : Nat → Value} (h : w.ownsRow base e size (.slice (some ⟨g, 0, none⟩) n cap) n ((List.range N).map f)) (j : Nat) (hj : j < n * size) (hN : N = n * size) : w.cell? ⟨g, j, none⟩ = some (f j) := by
  rw [h.cellAt j hj, List.getElem?_map, List.getElem?_range (by omega)]; rfl
/-- An owned row that is not empty, its address written out. -/
theorem own_addr {w : World} {base e size n c : Nat} {ao : Option Addr} {xs : List Value} (h : w.ownsRow base e size (.slice ao n c) n xs) (hn : 0 < n) : ∃ g, ao = some ⟨g, 0, none⟩ ∧ base ≤ g ∧ g < w.heap.size := by
  obtain ⟨g, cap, e, h1, h2⟩ := h.form hn
  simp only [Value.slice.injEq, true_and] at e
  exact ⟨g, e.1, h1, h2⟩

end Go.Proofs.YtcioofnmhfehaaaGreat

namespace Go.Proofs.YtcioofnmhfehaaaGreat
open Go.RowKit

structure Stay where
  who : Int
  ln : Int
  len : Int
  hei : Int
def Stay.zero : Stay := ⟨0, 0, 0, 0⟩
instance : Inhabited Stay := ⟨Stay.zero⟩
/-- The record as a value. -/
def Stay.v (s : Stay) : Value := .agg #[.int .i64 s.who, .int .i64 s.ln, .int .i64 s.len, .int .i64 s.hei]
/-- The slice at ao reads as n records. -/
def StaysAt (w : World) (ao : Option Addr) (n : Nat) (S : Nat → Stay) : Prop :=
  ∀ k, k < n → ∃ b off, ao = some ⟨b, off, none⟩ ∧ w.cell? ⟨b, off + k * 4, none⟩ = some (.int .i64 (S k).who) ∧ w.cell? ⟨b, off + k * 4 + 1, none⟩ = some (.int .i64 (S k).ln) ∧ w.cell? ⟨b, off + k * 4 + 2, none⟩ = some (.int .i64 (S k).len) ∧ w.cell? ⟨b, off + k * 4 + 3, none⟩ = some (.int .i64 (S k).hei)
theorem StaysAt.below {w w' : World} {ao : Option Addr} {n : Nat} {S : Nat → Stay} (h : StaysAt w ao n S) (hb : Below w.heap.size w w') : StaysAt w' ao n S := by
  intro k hk
  obtain ⟨b, off, e, h0, h1, h2, h3⟩ := h k hk
  have hlt : b < w.heap.size := World.block_lt_of_cell? w _ h0
  exact ⟨b, off, e, (hb.cell hlt).trans h0, (hb.cell hlt).trans h1, (hb.cell hlt).trans h2, (hb.cell hlt).trans h3⟩
theorem StaysAt.upto {w : World} {ao : Option Addr} {n i : Nat} {S : Nat → Stay} (h : StaysAt w ao n S) (hi : i ≤ n) : StaysAt w ao i S := fun k hk => h k (by omega)
/-- The cell j of a row of records. -/
def stayCell (S : Nat → Stay) (j : Nat) : Value :=
  if j % 4 = 0 then .int .i64 (S (j / 4)).who else if j % 4 = 1 then .int .i64 (S (j / 4)).ln else if j % 4 = 2 then .int .i64 (S (j / 4)).len else .int .i64 (S (j / 4)).hei
theorem stayCell_0 (S : Nat → Stay) (k : Nat) : stayCell S (k * 4) = .int .i64 (S k).who := by
  unfold stayCell; rw [if_pos (by omega), show k * 4 / 4 = k by omega]
theorem stayCell_1 (S : Nat → Stay) (k : Nat) : stayCell S (k * 4 + 1) = .int .i64 (S k).ln := by
  unfold stayCell; rw [if_neg (by omega), if_pos (by omega), show (k * 4 + 1) / 4 = k by omega]
theorem stayCell_2 (S : Nat → Stay) (k : Nat) : stayCell S (k * 4 + 2) = .int .i64 (S k).len := by
  unfold stayCell; rw [if_neg (by omega), if_neg (by omega), if_pos (by omega), show (k * 4 + 2) / 4 = k by omega]
theorem stayCell_3 (S : Nat → Stay) (k : Nat) : stayCell S (k * 4 + 3) = .int .i64 (S k).hei := by
  unfold stayCell; rw [if_neg (by omega), if_neg (by omega), if_neg (by omega), show (k * 4 + 3) / 4 = k by omega]
theorem StaysAt.of_row {w : World} {g t n : Nat} {S : Nat → Stay} (h : w.rowIs g t (n * 4) (stayCell S)) : StaysAt w (some ⟨g, 0, none⟩) n S := by
  intro k hk
  refine ⟨g, 0, rfl, ?_, ?_, ?_, ?_⟩
  · rw [Nat.zero_add, h.cell (by omega), stayCell_0]
  · rw [Nat.zero_add, h.cell (by omega), stayCell_1]
  · rw [Nat.zero_add, h.cell (by omega), stayCell_2]
  · rw [Nat.zero_add, h.cell (by omega), stayCell_3]
theorem made_stays (n : Nat) (j : Nat) (hj : j < n * 4) : (madeCells (Value.agg #[.int .i64 0, .int .i64 0, .int .i64 0, .int .i64 0]).cells (n * 4)).toList.getD j (.bool false) = stayCell (fun _ => Stay.zero) j := by
  have hz : (Value.agg #[.int .i64 0, .int .i64 0, .int .i64 0, .int .i64 0]).cells = #[.int .i64 0, .int .i64 0, .int .i64 0, .int .i64 0] := rfl
  rw [hz]
  simp only [madeCells, Array.toList_map, List.getD_eq_getElem?_getD, List.getElem?_map, Array.toList_range, List.getElem?_range hj, Option.map_some, Option.getD_some]
  unfold stayCell
  have : j % 4 = 0 ∨ j % 4 = 1 ∨ j % 4 = 2 ∨ j % 4 = 3 := by omega
  rcases this with h | h | h | h <;> simp [h, Stay.zero]
/-- A record is stored into a row. -/
theorem stay_set {w : World} {g t n k : Nat} {S S' : Nat → Stay} (h : w.rowIs g t n (stayCell S)) (hS : ∀ i, i ≠ k → S' i = S i) :
    ((((w.setCell ⟨g, k * 4, none⟩ (.int .i64 (S' k).who)).setCell ⟨g, k * 4 + 1, none⟩ (.int .i64 (S' k).ln)).setCell ⟨g, k * 4 + 2, none⟩ (.int .i64 (S' k).len)).setCell ⟨g, k * 4 + 3, none⟩ (.int .i64 (S' k).hei)).rowIs g t n (stayCell S') := by
  refine ((((h.set (k * 4) _).set (k * 4 + 1) _).set (k * 4 + 2) _).set (k * 4 + 3) _).congr fun j _ => ?_
  by_cases h3 : j = k * 4 + 3
  · subst h3; rw [if_pos rfl, stayCell_3]
  rw [if_neg h3]
  by_cases h2 : j = k * 4 + 2
  · subst h2; rw [if_pos rfl, stayCell_2]
  rw [if_neg h2]
  by_cases h1 : j = k * 4 + 1
  · subst h1; rw [if_pos rfl, stayCell_1]
  rw [if_neg h1]
  by_cases h0 : j = k * 4
  · subst h0; rw [if_pos rfl, stayCell_0]
  rw [if_neg h0]
  have hk : j / 4 ≠ k := by omega
  unfold stayCell
  rw [hS _ hk]
/-- The cells of the first n records. -/
def stayList (S : Nat → Stay) (n : Nat) : List Value := (List.range (n * 4)).map (stayCell S)
theorem stayList_length (S : Nat → Stay) (n : Nat) : (stayList S n).length = n * 4 := by simp [stayList]
theorem stayList_get {S : Nat → Stay} {n j : Nat} {u : Value} (h : (stayList S n)[j]? = some u) : j < n * 4 ∧ u = stayCell S j := by
  unfold stayList at h
  rw [List.getElem?_map] at h
  by_cases hj : j < n * 4
  · rw [List.getElem?_range hj] at h; simp at h; exact ⟨hj, h.symm⟩
  · rw [List.getElem?_eq_none (by simpa using hj)] at h; cases h
theorem stayList_one (S : Nat → Stay) (n : Nat) : ∀ u ∈ stayList S n, u.oneCell' = true := by
  intro u hu
  unfold stayList at hu
  simp only [List.mem_map] at hu
  obtain ⟨j, _, rfl⟩ := hu
  unfold stayCell
  repeat' split
  all_goals rfl
theorem stayList_succ (S : Nat → Stay) (k : Nat) : stayList S (k + 1) = stayList S k ++ [.int .i64 (S k).who, .int .i64 (S k).ln, .int .i64 (S k).len, .int .i64 (S k).hei] := by
  unfold stayList
  rw [show (k + 1) * 4 = k * 4 + 1 + 1 + 1 + 1 by omega, List.range_succ, List.range_succ, List.range_succ, List.range_succ]
  simp only [List.map_append, List.map_cons, List.map_nil, List.append_assoc, List.cons_append, List.nil_append, stayCell_0, stayCell_1, stayCell_2, stayCell_3]
theorem stayList_congr {S S' : Nat → Stay} {n : Nat} (h : ∀ i, i < n → S i = S' i) : stayList S n = stayList S' n := by
  unfold stayList
  refine List.map_congr_left (fun j hj => ?_)
  have hj' : j < n * 4 := by simpa using hj
  unfold stayCell
  rw [h (j / 4) (by omega)]
/-- n records of S and then those of T. -/
def stayCat (S : Nat → Stay) (n : Nat) (T : Nat → Stay) (i : Nat) : Stay := if i < n then S i else T (i - n)
theorem stayList_cat (S T : Nat → Stay) (n j : Nat) : stayList (stayCat S n T) (n + j) = stayList S n ++ stayList T j := by
  induction j with
  | zero =>
    have : stayList T 0 = [] := by simp [stayList]
    rw [this, List.append_nil, Nat.add_zero]
    exact stayList_congr (fun i hi => if_pos hi)
  | succ j ih =>
    rw [show n + (j + 1) = n + j + 1 by omega, stayList_succ, stayList_succ, ih, List.append_assoc]
    have : stayCat S n T (n + j) = T j := by unfold stayCat; rw [if_neg (by omega), show n + j - n = j by omega]
    rw [this]
/-- The cells of a list, read at its address. -/
theorem stays_cells {w : World} {ao : Option Addr} {n : Nat} {S : Nat → Stay} (h : StaysAt w ao n S) : ∀ ad, ao = some ad → ∀ j u, (stayList S n)[j]? = some u → w.cell? (ad.add j) = some u := by
  intro ad e j u hu
  obtain ⟨hj, rfl⟩ := stayList_get hu
  obtain ⟨b, off, e', h0, h1, h2, h3⟩ := h (j / 4) (by omega)
  rw [e] at e'
  simp only [Option.some.injEq] at e'
  subst e'
  rw [Addr.add_lit]
  have hm : j % 4 = 0 ∨ j % 4 = 1 ∨ j % 4 = 2 ∨ j % 4 = 3 := by omega
  rcases hm with hm | hm | hm | hm
  · rw [show off + j = off + j / 4 * 4 by omega, h0]; unfold stayCell; simp [hm]
  · rw [show off + j = off + j / 4 * 4 + 1 by omega, h1]; unfold stayCell; simp [hm]
  · rw [show off + j = off + j / 4 * 4 + 2 by omega, h2]; unfold stayCell; simp [hm]
  · rw [show off + j = off + j / 4 * 4 + 3 by omega, h3]; unfold stayCell; simp [hm]
theorem stays_of_own {w : World} {base e n c : Nat} {ao : Option Addr} {S : Nat → Stay} (h : w.ownsRow base e 4 (.slice ao n c) n (stayList S n)) : StaysAt w ao n S := by
  intro k hk
  obtain ⟨g, rfl, _, _⟩ := own_addr h (by omega)
  have c0 := own_cell h (k * 4) (by omega) rfl
  rw [stayCell_0] at c0
  have c1 := own_cell h (k * 4 + 1) (by omega) rfl
  rw [stayCell_1] at c1
  have c2 := own_cell h (k * 4 + 2) (by omega) rfl
  rw [stayCell_2] at c2
  have c3 := own_cell h (k * 4 + 3) (by omega) rfl
  rw [stayCell_3] at c3
  exact ⟨g, 0, rfl, by rw [Nat.zero_add]; exact c0, by rw [Nat.zero_add]; exact c1, by rw [Nat.zero_add]; exact c2, by rw [Nat.zero_add]; exact c3⟩
/-- Records with their address written out. -/
theorem stays_in {w : World} {ao : Option Addr} {n : Nat} {S : Nat → Stay} (h : StaysAt w ao n S) : n = 0 ∨ ∃ b off, ao = some ⟨b, off, none⟩ ∧ b < w.heap.size := by
  by_cases h0 : n = 0
  · exact .inl h0
  · obtain ⟨b, off, rfl, h1, _⟩ := h 0 (by omega)
    exact .inr ⟨b, off, rfl, World.block_lt_of_cell? w _ h1⟩

end Go.Proofs.YtcioofnmhfehaaaGreat
