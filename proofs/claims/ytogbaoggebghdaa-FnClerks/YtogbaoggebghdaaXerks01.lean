/-
  OWN TEXT: DrawC1, MarkX, MarkTx.
-/
import Derived.Test.YtogbaoggebghdaaRows
import Derived.Deep.RegionHeld3
import Derived.Test.YtogbaoggebghdaaXerks00
import Derived.Test.YtogbaoggebghdaaB15
import Derived.Test.YtogbaoggebghdaaB00
namespace Go.Proofs.Ytogbaoggebghdaa
open Go.RowKit

/-- A cursor behind what was written elsewhere. -/
theorem cur_far {w w' : World} {cb n c a : Nat} {ao : Option Addr} {T : Nat → Prop} (h : CurIs w cb ao n c a) (hk : Kept w w' T) (h1 : ¬ T cb) (h2 : ∀ k, k < n → ∀ b off, ao = some ⟨b, off, none⟩ → ¬ T b) : CurIs w' cb ao n c a := by
  obtain ⟨⟨p, s, hp, hb⟩, hc⟩ := h
  refine ⟨⟨p, s, hp, hk.blk hb h1⟩, fun k hk' => ?_⟩
  obtain ⟨b, off, v, e, hne, hcell, q1, q2⟩ := hc k hk'
  exact ⟨b, off, v, e, hne, hk.cellAt hcell (h2 k hk' b off e), q1, q2⟩
/-- What is written in new memory alone is not seen. -/
theorem kept_away {w w1 w2 : World} {S T : Nat → Prop} (h : Kept w w1 S) (hk : Kept w1 w2 T) (hT : ∀ b, T b → w.heap.size ≤ b) : Kept w w2 S :=
  ⟨hk.os.trans h.os, hk.tape.trans h.tape, hk.output.trans h.output, Nat.le_trans h.size hk.size, fun i hi hs => (hk.block i (Nat.lt_of_lt_of_le hi h.size) (fun e => by have := hT i e; omega)).trans (h.block i hi hs)⟩

theorem rows_kept {w w' : World} {ra : Option Addr} {m : Nat} {T : Nat → MRow} {P : Nat → Prop} (h : MRowsAt w ra m T) (hk : Kept w w' P) (hp : ∀ b off, ra = some ⟨b, off, none⟩ → ¬ P b) : MRowsAt w' ra m T := by
  intro k hk'
  obtain ⟨b, off, e, h0, h1, h2, h3, h4⟩ := h k hk'
  have hn := hp b off e
  exact ⟨b, off, e, hk.cellAt h0 hn, hk.cellAt h1 hn, hk.cellAt h2 hn, hk.cellAt h3 hn, hk.cellAt h4 hn⟩

set_option maxHeartbeats 800000 in
theorem ofL (cb : Nat) (ao : Option Addr) (n c a : Nat) (m : Nat) (l : List ByteArray) (w : World) (hl : l.length = m) (ha : a ≤ 900000000000000000) (hm : 1 ≤ m) (hm2 : m ≤ 100000) (h : CurIs w cb ao n c a) (b : Nat) (hb : w.heap[b]? = some (.cells (l.map Value.string).toArray 9 (0, 0))) (hne : b ≠ cb) :
    Calls Try.prog 38 #[.pointer (some ⟨cb, 0, none⟩), .slice (some ⟨b, 0, none⟩) m m] w fun e w' => (∃ s, e = .returned (.string s) ∧ Hid (s ∈ l)) ∧ CurIs w' cb ao n c (a + 2) ∧ Kept w w' (fun b => b = cb) := by
  have HB : Hid (w.heap[b]? = some (.cells (l.map Value.string).toArray 9 (0, 0))) := hb
  clear hb
  go_enter Try.func38, Try.ntmps38
  go_wp2_with fail
  refine (pick_any cb ao n c a m _ ha hm hm2 h).mono ?_
  rintro e w1 ⟨⟨r, rfl, hr⟩, hc1, hk1⟩
  have hb1 := hk1.blk HB.out hne
  obtain ⟨s, hs⟩ : ∃ s, l[r]? = some s := ⟨_, List.getElem?_eq_getElem (by omega)⟩
  have HM : Hid (s ∈ l) := List.mem_of_getElem? hs
  have c1 : w1.cell? ⟨b, r, none⟩ = some (.string s) := blk_cell hb1 r _ (by simp [hs])
  have i1 : (r : Int) < (m : Int) := by omega
  clear hs hb1
  go_wp2
  go_ret
  exact ⟨⟨s, rfl, HM⟩, hc1, hk1⟩

set_option maxHeartbeats 800000 in
theorem clerkName_any (cb : Nat) (ao : Option Addr) (n c a : Nat) (w : World) (ha : a ≤ 900000000000000000) (h : CurIs w cb ao n c a) :
    Calls Try.prog 33 #[.pointer (some ⟨cb, 0, none⟩)] w fun e w' => (∃ s, e = .returned (.string s) ∧ s.size ≤ 3) ∧ CurIs w' cb ao n c (a + 2) ∧ Kept w w' (fun b => b = cb) := by
  have hlt := h.lt
  have hb0 : Below w.heap.size w (w.alloc (.cells #[.string ⟨#[65, 110, 110]⟩, .string ⟨#[66, 111]⟩, .string ⟨#[67, 121]⟩, .string ⟨#[68, 105]⟩] 9)) := push (Below.refl _ _) _
  have bN : (w.alloc (.cells #[.string ⟨#[65, 110, 110]⟩, .string ⟨#[66, 111]⟩, .string ⟨#[67, 121]⟩, .string ⟨#[68, 105]⟩] 9)).heap[w.heap.size]? = some (.cells #[.string ⟨#[65, 110, 110]⟩, .string ⟨#[66, 111]⟩, .string ⟨#[67, 121]⟩, .string ⟨#[68, 105]⟩] 9 (0, 0)) := heap_alloc_new _ _
  go_enter Try.func33, Try.ntmps33
  go_wp2_with fail
  refine (ofL cb ao n c a 4 [⟨#[65, 110, 110]⟩, ⟨#[66, 111]⟩, ⟨#[67, 121]⟩, ⟨#[68, 105]⟩] _ rfl ha (by omega) (by omega) (h.below hb0) w.heap.size bN (by omega)).mono ?_
  rintro e w1 ⟨⟨s, rfl, hs⟩, hc1, hk1⟩
  have hsz : s.size ≤ 3 := by
    have h1 := hs.out
    simp only [List.mem_cons, List.not_mem_nil, or_false] at h1
    rcases h1 with rfl | rfl | rfl | rfl <;> decide
  clear hs
  go_wp2
  go_ret
  exact ⟨⟨s, rfl, hsz⟩, hc1, (Kept.of_below hb0).trans hk1⟩

set_option maxHeartbeats 3200000 in
set_option maxRecDepth 100000 in
theorem answer_any (cb : Nat) (ao : Option Addr) (n c a : Nat) (w : World) (ha : a ≤ 800000000000000000) (h : CurIs w cb ao n c a) :
    Calls Try.prog 48 #[.pointer (some ⟨cb, 0, none⟩)] w fun e w' => (∃ (x : AnsD) (rv : Value), ∃ ra rc, rv = .slice ra x.rwn rc ∧ e = .returned (.agg #[.int .i64 x.code, .int .i64 x.anam, .int .i64 x.price, rv]) ∧ MRowsAt w' ra x.rwn x.rw ∧ x.rwn ≤ 1 ∧ (∀ j, j < x.rwn → (x.rw j).own.size ≤ 3) ∧ (ra = none → x.rwn = 0 ∧ rc = 0) ∧ ∀ b off, ra = some ⟨b, off, none⟩ → w.heap.size ≤ b) ∧ CurIs w' cb ao n c (a + 8) ∧ Kept w w' (fun b => b = cb) := by
  have hlt := h.lt
  have HCL0 := h.code_lt
  have hb0 : Below w.heap.size w (w.alloc (.cells #[.int .i64 0, .int .i64 0, .int .i64 0, .slice none 0 0] 28)) := push (Below.refl _ _) _
  have bZ : (w.alloc (.cells #[.int .i64 0, .int .i64 0, .int .i64 0, .slice none 0 0] 28)).heap[w.heap.size]? = some (.cells #[.int .i64 0, .int .i64 0, .int .i64 0, .slice none 0 0] 28 (0, 0)) := heap_alloc_new _ _
  have hc0 := h.below hb0
  go_enter Try.func48, Try.ntmps48
  go_upto_region 1 with fail
  generalize w.alloc (.cells #[.int .i64 0, .int .i64 0, .int .i64 0, .slice none 0 0] 28) = V at hb0 bZ hc0 ⊢
  obtain ⟨zB, hzB⟩ : ∃ u, u = w.heap.size := ⟨_, rfl⟩
  rw [← hzB] at bZ ⊢
  have HZB : Hid (zB = w.heap.size) := hzB
  have HNE : Hid (cb ≠ zB) := fun e => by omega
  have HCL : Hid (∀ k, k < n → ∀ b off, ao = some ⟨b, off, none⟩ → b ≠ zB) := fun k hk b off e => by have := HCL0 k hk b off e; omega
  have HCW : Hid (∀ k, k < n → ∀ b off, ao = some ⟨b, off, none⟩ → b < w.heap.size) := HCL0
  clear hzB h HCL0
  go_wp2_with fail
  refine (pick_any cb ao n c a 3 _ (by omega) (by omega) (by omega) hc0).mono ?_
  rintro e v1 ⟨⟨r1, rfl, _⟩, hc1, hk1⟩
  go_wp2_with fail
  refine (pick_any cb ao n c (a + 2) 4 _ (by omega) (by omega) (by omega) hc1).mono ?_
  rintro e v2 ⟨⟨r2, rfl, _⟩, hc2, hk2⟩
  go_wp2_with fail
  refine (pick_any cb ao n c (a + 2 + 2) 100 _ (by omega) (by omega) (by omega) hc2).mono ?_
  rintro e v3 ⟨⟨r3, rfl, _⟩, hc3, hk3⟩
  have hk : Kept V v3 (fun b => b = cb) := (hk1.trans hk2).trans hk3
  have bZ3 := hk.blk bZ (fun e => HNE.out e.symm)
  have hs3 : w.heap.size ≤ v3.heap.size := Nat.le_trans hb0.size hk.size
  have HK3 : Hid (Kept w v3 (fun b => b = cb)) := (Kept.of_below hb0).trans hk
  have hZ3 : zB < v3.heap.size := blk_lt bZ3
  have hb4 : Below v3.heap.size v3 (v3.alloc (.cells #[.int .i64 r1, .int .i64 r2, .int .i64 r3, .slice none 0 0] 28)) := push (Below.refl _ _) _
  have bB : (v3.alloc (.cells #[.int .i64 r1, .int .i64 r2, .int .i64 r3, .slice none 0 0] 28)).heap[v3.heap.size]? = some (.cells #[.int .i64 r1, .int .i64 r2, .int .i64 r3, .slice none 0 0] 28 (0, 0)) := heap_alloc_new _ _
  have bZ4 := blk_below bZ3 hb4
  have hc4 := hc3.below hb4
  have HK4 : Hid (Kept w (v3.alloc (.cells #[.int .i64 r1, .int .i64 r2, .int .i64 r3, .slice none 0 0] 28)) (fun b => b = cb)) := HK3.out.trans (Kept.of_below hb4)
  clear hc0 hc1 hc2 hk1 hk2 hk3 bZ bZ3 hk hb0
  go_upto_region 2 with fail
  generalize v3.alloc (.cells #[.int .i64 r1, .int .i64 r2, .int .i64 r3, .slice none 0 0] 28) = v4 at bB bZ4 hc4 hb4 HK4 ⊢
  obtain ⟨bB0, hbB⟩ : ∃ u, u = v3.heap.size := ⟨_, rfl⟩
  rw [← hbB] at bB ⊢
  have HBB : Hid (w.heap.size ≤ bB0 ∧ bB0 ≠ zB) := ⟨by omega, fun e => by have := hZ3; omega⟩
  clear hbB hb4
  go_wp2_with fail
  refine (one_any cb ao n c (a + 2 + 2 + 2) 4 _ (by omega) (by omega) (by omega) hc4).mono ?_
  rintro e v5 ⟨⟨b, rfl⟩, hc5, hk5⟩
  have bZ5 := hk5.blk bZ4 (fun e => HNE.out e.symm)
  have hb5 := hk5.blk bB (fun e => by have := HBB.out.1; have h1 : bB0 = cb := e; omega)
  have HK5 : Hid (Kept w v5 (fun b => b = cb)) := HK4.out.trans hk5
  have hs5 : w.heap.size ≤ v5.heap.size := HK5.out.size
  clear hc4 bZ4 bB hk5 HK4 HK3 hc3
  have y0 := blk_cell bZ5 0 _ rfl
  have y1 := blk_cell bZ5 1 _ rfl
  have y2 := blk_cell bZ5 2 _ rfl
  have y3 := blk_cell bZ5 3 _ rfl
  have f0 := blk_free bZ5 0
  have f1 := blk_free bZ5 1
  have f2 := blk_free bZ5 2
  have f3 := blk_free bZ5 3
  have x0 := blk_cell hb5 0 _ rfl
  have x1 := blk_cell hb5 1 _ rfl
  have x2 := blk_cell hb5 2 _ rfl
  have x3 := blk_cell hb5 3 _ rfl
  have g3 := blk_free hb5 3
  cases b with
  | false =>
    · skip
      have rF := ans_set bZ5 (.int .i64 r1) (.int .i64 r2) (.int .i64 r3) (.slice none 0 0)
      have hkF : Kept v5 ((((v5.setCell ⟨zB, 0, none⟩ (.int .i64 r1)).setCell ⟨zB, 1, none⟩ (.int .i64 r2)).setCell ⟨zB, 2, none⟩ (.int .i64 r3)).setCell ⟨zB, 3, none⟩ (.slice none 0 0)) (fun b => b = zB) := ((((Kept.refl v5 (fun b => b = zB)).set (a := ⟨zB, 0, none⟩) rfl _).set (a := ⟨zB, 1, none⟩) rfl _).set (a := ⟨zB, 2, none⟩) rfl _).set (a := ⟨zB, 3, none⟩) rfl _
      have hcF : CurIs ((((v5.setCell ⟨zB, 0, none⟩ (.int .i64 r1)).setCell ⟨zB, 1, none⟩ (.int .i64 r2)).setCell ⟨zB, 2, none⟩ (.int .i64 r3)).setCell ⟨zB, 3, none⟩ (.slice none 0 0)) cb ao n c (a + 8) := cur_far hc5 hkF (fun e => HNE.out e) (fun k hk b off e1 e2 => HCL.out k hk b off e1 e2)
      have hKF : Kept w ((((v5.setCell ⟨zB, 0, none⟩ (.int .i64 r1)).setCell ⟨zB, 1, none⟩ (.int .i64 r2)).setCell ⟨zB, 2, none⟩ (.int .i64 r3)).setCell ⟨zB, 3, none⟩ (.slice none 0 0)) (fun b => b = cb) := kept_away HK5.out hkF (fun b e => by have e : b = zB := e; have := HZB.out; omega)
      have HRW : Hid True := trivial
      go_wp2
      generalize (((v5.setCell ⟨zB, 0, none⟩ (.int .i64 r1)).setCell ⟨zB, 1, none⟩ (.int .i64 r2)).setCell ⟨zB, 2, none⟩ (.int .i64 r3)).setCell ⟨zB, 3, none⟩ (.slice none 0 0) = F at rF hcF hKF ⊢
      have z0 := blk_cell rF 0 _ rfl
      have z1 := blk_cell rF 1 _ rfl
      have z2 := blk_cell rF 2 _ rfl
      have z3 := blk_cell rF 3 _ rfl
      exact bodyPost_ret (v := .agg #[.int .i64 r1, .int .i64 r2, .int .i64 r3, .slice none 0 0]) (by simp [results, Try.results48, go_sem, z0, z1, z2, z3]) rfl ⟨⟨⟨r1, r2, r3, 0, fun _ => MRow.zero⟩, _, none, 0, rfl, rfl, (fun j hj => absurd hj (Nat.not_lt_zero j)), (show 0 ≤ 1 by omega), fun j _ => (by show (0 : Nat) ≤ 3; omega), (fun _ => ⟨rfl, rfl⟩), (fun b off e => by cases e)⟩, hcF, hKF⟩
  | true =>
    · have hb6 : Below v5.heap.size v5 (v5.alloc (.cells #[.int .i64 1, .string ⟨#[65, 110, 110]⟩, .int .i64 2, .int .i64 (-1), .int .i64 0] 84)) := push (Below.refl _ _) _
      have bR : (v5.alloc (.cells #[.int .i64 1, .string ⟨#[65, 110, 110]⟩, .int .i64 2, .int .i64 (-1), .int .i64 0] 84)).heap[v5.heap.size]? = some (.cells #[.int .i64 1, .string ⟨#[65, 110, 110]⟩, .int .i64 2, .int .i64 (-1), .int .i64 0] 84 (0, 0)) := heap_alloc_new _ _
      have bZ6 := blk_below bZ5 hb6
      have hb7 := blk_below hb5 hb6
      have hc6 := hc5.below hb6
      have HK6 : Hid (Kept w (v5.alloc (.cells #[.int .i64 1, .string ⟨#[65, 110, 110]⟩, .int .i64 2, .int .i64 (-1), .int .i64 0] 84)) (fun b => b = cb)) := HK5.out.trans (Kept.of_below hb6)
      have u3 := blk_cell hb7 3 _ rfl
      have ug3 := blk_free hb7 3
      go_upto_region 4 with fail
      clear u3 ug3
      obtain ⟨rB, hrB⟩ : ∃ u, u = v5.heap.size := ⟨_, rfl⟩
      have hlB : bB0 < v5.heap.size := blk_lt hb5
      generalize v5.alloc (.cells #[.int .i64 1, .string ⟨#[65, 110, 110]⟩, .int .i64 2, .int .i64 (-1), .int .i64 0] 84) = v6 at bR bZ6 hb7 hc6 HK6 ⊢
      rw [← hrB] at bR ⊢
      have hk7 : Kept v6 (v6.setCell ⟨bB0, 3, none⟩ (.slice (some ⟨rB, 0, none⟩) 1 1)) (fun b => b = bB0) := (Kept.refl v6 (fun b => b = bB0)).set (a := ⟨bB0, 3, none⟩) rfl _
      have hb8 : (v6.setCell ⟨bB0, 3, none⟩ (.slice (some ⟨rB, 0, none⟩) 1 1)).heap[bB0]? = some (.cells #[.int .i64 r1, .int .i64 r2, .int .i64 r3, .slice (some ⟨rB, 0, none⟩) 1 1] 28 (0, 0)) := ans_at3 hb7 _
      have bR8 := hk7.blk bR (by omega)
      have bZ8 := hk7.blk bZ6 (fun e => HBB.out.2 e.symm)
      have hc8 := cur_far hc6 hk7 (fun e => by have e : cb = bB0 := e; have := HBB.out.1; omega) (fun k hk b off e1 e2 => by have e2 : b = bB0 := e2; have := HCW.out k hk b off e1; have := HBB.out.1; omega)
      have HK8 : Hid (Kept w (v6.setCell ⟨bB0, 3, none⟩ (.slice (some ⟨rB, 0, none⟩) 1 1)) (fun b => b = cb)) := kept_away HK6.out hk7 (fun b e => by have e : b = bB0 := e; have := HBB.out.1; omega)
      have HRS : Hid (w.heap.size ≤ rB) := by show w.heap.size ≤ rB; omega
      have HRB : Hid (rB ≠ zB) := fun e => by have := blk_lt bZ5; omega
      clear bZ5 hb5 hc5 HK5 hb6 bR bZ6 hb7 hc6 HK6 hk7 hrB y0 y1 y2 y3 f0 f1 f2 f3 x0 x1 x2 x3 g3
      generalize v6.setCell ⟨bB0, 3, none⟩ (.slice (some ⟨rB, 0, none⟩) 1 1) = v7 at hb8 bR8 bZ8 hc8 HK8 ⊢
      have y0 := blk_cell bZ8 0 _ rfl
      have y1 := blk_cell bZ8 1 _ rfl
      have y2 := blk_cell bZ8 2 _ rfl
      have y3 := blk_cell bZ8 3 _ rfl
      have f0 := blk_free bZ8 0
      have f1 := blk_free bZ8 1
      have f2 := blk_free bZ8 2
      have f3 := blk_free bZ8 3
      have x0 := blk_cell hb8 0 _ rfl
      have x1 := blk_cell hb8 1 _ rfl
      have x2 := blk_cell hb8 2 _ rfl
      have x3 := blk_cell hb8 3 _ rfl
      have rF := ans_set bZ8 (.int .i64 r1) (.int .i64 r2) (.int .i64 r3) (.slice (some ⟨rB, 0, none⟩) 1 1)
      have hkF : Kept v7 ((((v7.setCell ⟨zB, 0, none⟩ (.int .i64 r1)).setCell ⟨zB, 1, none⟩ (.int .i64 r2)).setCell ⟨zB, 2, none⟩ (.int .i64 r3)).setCell ⟨zB, 3, none⟩ (.slice (some ⟨rB, 0, none⟩) 1 1)) (fun b => b = zB) := ((((Kept.refl v7 (fun b => b = zB)).set (a := ⟨zB, 0, none⟩) rfl _).set (a := ⟨zB, 1, none⟩) rfl _).set (a := ⟨zB, 2, none⟩) rfl _).set (a := ⟨zB, 3, none⟩) rfl _
      have hcF : CurIs ((((v7.setCell ⟨zB, 0, none⟩ (.int .i64 r1)).setCell ⟨zB, 1, none⟩ (.int .i64 r2)).setCell ⟨zB, 2, none⟩ (.int .i64 r3)).setCell ⟨zB, 3, none⟩ (.slice (some ⟨rB, 0, none⟩) 1 1)) cb ao n c (a + 8) := cur_far hc8 hkF (fun e => HNE.out e) (fun k hk b off e1 e2 => HCL.out k hk b off e1 e2)
      have hKF : Kept w ((((v7.setCell ⟨zB, 0, none⟩ (.int .i64 r1)).setCell ⟨zB, 1, none⟩ (.int .i64 r2)).setCell ⟨zB, 2, none⟩ (.int .i64 r3)).setCell ⟨zB, 3, none⟩ (.slice (some ⟨rB, 0, none⟩) 1 1)) (fun b => b = cb) := kept_away HK8.out hkF (fun b e => by have e : b = zB := e; have := HZB.out; omega)
      have bRF := hkF.blk bR8 (fun e => HRB.out e)
      clear bR8
      go_wp2
      generalize (((v7.setCell ⟨zB, 0, none⟩ (.int .i64 r1)).setCell ⟨zB, 1, none⟩ (.int .i64 r2)).setCell ⟨zB, 2, none⟩ (.int .i64 r3)).setCell ⟨zB, 3, none⟩ (.slice (some ⟨rB, 0, none⟩) 1 1) = F at rF hcF hKF bRF ⊢
      have z0 := blk_cell rF 0 _ rfl
      have z1 := blk_cell rF 1 _ rfl
      have z2 := blk_cell rF 2 _ rfl
      have z3 := blk_cell rF 3 _ rfl
      exact bodyPost_ret (v := .agg #[.int .i64 r1, .int .i64 r2, .int .i64 r3, .slice (some ⟨rB, 0, none⟩) 1 1]) (by simp [results, Try.results48, go_sem, z0, z1, z2, z3]) rfl ⟨⟨⟨r1, r2, r3, 1, fun _ => ⟨1, ⟨#[65, 110, 110]⟩, 2, -1, 0⟩⟩, _, some ⟨rB, 0, none⟩, 1, rfl, rfl, (fun j hj => ⟨rB, 0, rfl, by obtain rfl : j = 0 := by { have hj : j < 1 := hj; omega }; exact ⟨blk_cell bRF 0 _ rfl, blk_cell bRF 1 _ rfl, blk_cell bRF 2 _ rfl, blk_cell bRF 3 _ rfl, blk_cell bRF 4 _ rfl⟩⟩), (show 1 ≤ 1 by omega), fun j _ => (by show (3 : Nat) ≤ 3; omega), (fun h => by cases h), (fun b off e => by cases e; exact HRS.out)⟩, hcF, hKF⟩

end Go.Proofs.Ytogbaoggebghdaa

namespace Go.Proofs.Ytogbaoggebghdaa
open Go.RowKit

set_option maxHeartbeats 1600000 in
set_option maxRecDepth 100000 in
theorem markText_any (k : Nat) (w : World) (hk : k ≤ 1000000000000000) :
    Calls Try.prog 57 #[.int .i64 k] w fun e w' => (∃ s, e = .returned (.string s)) ∧ Below w.heap.size w w' := by
  by_cases h0 : k = 0
  · subst h0
    go_enter Try.func57, Try.ntmps57
    go_wp2
    go_ret
    exact ⟨⟨_, rfl⟩, Below.refl _ _⟩
  · have d0 : decide ((k : Int) ≤ 0) = false := decide_eq_false (by omega)
    go_enter Try.func57, Try.ntmps57
    go_wp2
    go_loopw [0, 3] (fun s0 s3 wr => ∃ (q : Nat) (s : ByteArray), s0 = .int .i64 q ∧ s3 = .string s ∧ s.size + q ≤ 1000000000000000 ∧ Below w.heap.size w wr) (fun s0 _ _ => (intOf s0).toNat)
    case atStart => exact ⟨k, ⟨#[]⟩, rfl, rfl, by show 0 + k ≤ _; omega, Below.refl _ _⟩
    case round =>
      obtain ⟨q, s, rfl, rfl, hs, hbel⟩ := hrel
      by_cases hq : q = 0
      · subst hq
        have hsum := run_string_add_sum (P := Try.prog) (w := wr) ⟨#[109]⟩ s (by show 1 + s.size ≤ _; omega)
        go_wp2
        go_ret
        exact ⟨⟨_, rfl⟩, hbel⟩
      · have dq : decide ((0 : Int) < (q : Int)) = true := decide_eq_true (by omega)
        have hconv : (convert 22 9 (.slice (some ⟨wr.heap.size, 0, none⟩) 1 1)).run Try.prog (wr.alloc (.cells #[.int .u8 (48 + (q : Int) % 10)] 5)) = .ok (.string (ByteArray.empty.push (UInt8.ofNat (48 + (q : Int) % 10).toNat))) (wr.alloc (.cells #[.int .u8 (48 + (q : Int) % 10)] 5)) := by
          rw [run_convert_bytes_string _ 22 9 5 _ 1 1 Try.underlying22 Try.underlying5 Try.underlying9]
          exact run_bytesToString _ _ 1 1 [48 + (q : Int) % 10] (run_loadCells_list _ _ [.int .u8 (48 + (q : Int) % 10)] (fun j v hj => by
            cases j with
            | zero => simp at hj; subst hj; simp [Addr.add, World.cell?_alloc_mark]
            | succ j => simp at hj))
        have hsum := run_string_add_sum (P := Try.prog) (w := wr.alloc (.cells #[.int .u8 (48 + (q : Int) % 10)] 5)) (ByteArray.empty.push (UInt8.ofNat (48 + (q : Int) % 10).toNat)) s (by show 1 + s.size ≤ _; omega)
        go_wp2
        refine ⟨⟨q / 10, _, by simp, rfl, ?_, push hbel _⟩, ?_⟩
        · have e : (ByteArray.empty.push (48 + UInt8.ofNat (q % 10)) ++ s).size = 1 + s.size := by
            rw [ByteArray.size_append]; rfl
          rw [e]; omega
        · simp only [intOf]; omega

theorem markText_int (k : Int) (w : World) (h0 : 0 ≤ k) (hk : k ≤ 1000000000000000) :
    Calls Try.prog 57 #[.int .i64 k] w fun e w' => (∃ s, e = .returned (.string s)) ∧ Below w.heap.size w w' := by
  obtain ⟨q, rfl⟩ := Int.eq_ofNat_of_zero_le h0
  exact markText_any q w (by omega)

end Go.Proofs.Ytogbaoggebghdaa

namespace Go.Proofs.Ytogbaoggebghdaa
open Go.RowKit

/-- The text that is left to be made of q ahead of s. -/
def markFin (q : Nat) (s : ByteArray) : ByteArray :=
  if _h : q = 0 then ⟨#[109]⟩ ++ s else markFin (q / 10) (ByteArray.empty.push (48 + UInt8.ofNat (q % 10)) ++ s)
termination_by q
decreasing_by omega
theorem markFin_0 (s : ByteArray) : markFin 0 s = ⟨#[109]⟩ ++ s := by rw [markFin]; simp
theorem markFin_s {q : Nat} (h : q ≠ 0) (s : ByteArray) : markFin q s = markFin (q / 10) (ByteArray.empty.push (48 + UInt8.ofNat (q % 10)) ++ s) := by rw [markFin]; simp [h]
def markT (k : Nat) : ByteArray := if k = 0 then ⟨#[109, 48]⟩ else markFin k ⟨#[]⟩

set_option maxHeartbeats 1600000 in
set_option maxRecDepth 100000 in
theorem markText_is (k : Nat) (w : World) (hk : k ≤ 1000000000000000) :
    Calls Try.prog 57 #[.int .i64 k] w fun e w' => e = .returned (.string (markT k)) ∧ Below w.heap.size w w' := by
  by_cases h0 : k = 0
  · subst h0
    go_enter Try.func57, Try.ntmps57
    go_wp2
    go_ret
    exact ⟨rfl, Below.refl _ _⟩
  · have d0 : decide ((k : Int) ≤ 0) = false := decide_eq_false (by omega)
    have HK : Hid (markT k = markFin k ⟨#[]⟩) := by show markT k = _; unfold markT; rw [if_neg h0]
    go_enter Try.func57, Try.ntmps57
    go_wp2
    go_loopw [0, 3] (fun s0 s3 wr => ∃ (q : Nat) (s : ByteArray), s0 = .int .i64 q ∧ s3 = .string s ∧ s.size + q ≤ 1000000000000000 ∧ Hid (markFin q s = markT k) ∧ Below w.heap.size w wr) (fun s0 _ _ => (intOf s0).toNat)
    case atStart => exact ⟨k, ⟨#[]⟩, rfl, rfl, by show 0 + k ≤ _; omega, HK.out.symm, Below.refl _ _⟩
    case round =>
      obtain ⟨q, s, rfl, rfl, hs, hfin, hbel⟩ := hrel
      by_cases hq : q = 0
      · subst hq
        have hsum := run_string_add_sum (P := Try.prog) (w := wr) ⟨#[109]⟩ s (by show 1 + s.size ≤ _; omega)
        go_wp2
        go_ret
        refine ⟨?_, hbel⟩
        rw [← hfin.out, markFin_0]
        rfl
      · have dq : decide ((0 : Int) < (q : Int)) = true := decide_eq_true (by omega)
        have hconv : (convert 22 9 (.slice (some ⟨wr.heap.size, 0, none⟩) 1 1)).run Try.prog (wr.alloc (.cells #[.int .u8 (48 + (q : Int) % 10)] 5)) = .ok (.string (ByteArray.empty.push (UInt8.ofNat (48 + (q : Int) % 10).toNat))) (wr.alloc (.cells #[.int .u8 (48 + (q : Int) % 10)] 5)) := by
          rw [run_convert_bytes_string _ 22 9 5 _ 1 1 Try.underlying22 Try.underlying5 Try.underlying9]
          exact run_bytesToString _ _ 1 1 [48 + (q : Int) % 10] (run_loadCells_list _ _ [.int .u8 (48 + (q : Int) % 10)] (fun j v hj => by
            cases j with
            | zero => simp at hj; subst hj; simp [Addr.add, World.cell?_alloc_mark]
            | succ j => simp at hj))
        have hsum := run_string_add_sum (P := Try.prog) (w := wr.alloc (.cells #[.int .u8 (48 + (q : Int) % 10)] 5)) (ByteArray.empty.push (UInt8.ofNat (48 + (q : Int) % 10).toNat)) s (by show 1 + s.size ≤ _; omega)
        go_wp2
        refine ⟨⟨q / 10, _, by simp, rfl, ?_, ?_, push hbel _⟩, ?_⟩
        · have e : (ByteArray.empty.push (48 + UInt8.ofNat (q % 10)) ++ s).size = 1 + s.size := by
            rw [ByteArray.size_append]; rfl
          rw [e]; omega
        · show markFin (q / 10) _ = markT k
          rw [← hfin.out, markFin_s hq]
        · simp only [intOf]; omega

end Go.Proofs.Ytogbaoggebghdaa
