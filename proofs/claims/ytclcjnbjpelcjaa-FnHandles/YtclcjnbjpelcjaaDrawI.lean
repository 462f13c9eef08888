/-
  OWN TEXT: contract of DrawPutRecord.
-/
import Derived.Test.YtclcjnbjpelcjaaDrawH
namespace Go.Proofs.Ytclcjnbjpelcjaa
open Go.RowKit

/-- The bytes at ao can be read. -/
def BytesAt (w : World) (ao : Option Addr) (n : Nat) : Prop := ∀ k, k < n → ∃ b off v, ao = some ⟨b, off, none⟩ ∧ w.cell? ⟨b, off + k, none⟩ = some (.int .u8 v) ∧ 0 ≤ v ∧ v ≤ 255
theorem BytesAt.below {w w' : World} {ao : Option Addr} {n : Nat} (h : BytesAt w ao n) (hb : Below w.heap.size w w') : BytesAt w' ao n := by
  intro k hk
  obtain ⟨b, off, v, e, hc, h1, h2⟩ := h k hk
  exact ⟨b, off, v, e, (hb.cell (World.block_lt_of_cell? w _ hc)).trans hc, h1, h2⟩
theorem cur_new {w : World} {ao : Option Addr} {n c : Nat} (h : BytesAt w ao n) : CurIs (w.alloc (.cells #[.slice ao n c, .int .i64 0, .int .u64 0] 90)) w.heap.size ao n c 0 := by
  refine ⟨⟨0, 0, Nat.le_refl _, heap_alloc_new w _⟩, fun k hk => ?_⟩
  obtain ⟨b, off, v, e, hc, h1, h2⟩ := h k hk
  have hlt : b < w.heap.size := World.block_lt_of_cell? w _ hc
  exact ⟨b, off, v, e, by omega, ((push (Below.refl _ w) _).cell (p := ⟨b, off + k, none⟩) hlt).trans hc, h1, h2⟩

set_option maxHeartbeats 3200000 in
set_option maxRecDepth 100000 in
theorem drawPut_any (ao : Option Addr) (n c : Nat) (w : World) (h : BytesAt w ao n) :
    Calls Try.prog 8 #[.slice ao n c] w fun e w' => (∃ s t u, e = .returned (.tuple #[.agg #[s, t], .int .i64 u]) ∧ ArnIs w' w.heap.size 21 s t) ∧ Below w.heap.size w w' := by
  have hb00 : Below w.heap.size w (w.alloc (.cells #[.slice none 0 0, .slice none 0 0] 26)) := push (Below.refl _ _) _
  have hc0 := cur_new (c := c) (h.below hb00)
  have hb0 : Below w.heap.size w ((w.alloc (.cells #[.slice none 0 0, .slice none 0 0] 26)).alloc (.cells #[.slice ao n c, .int .i64 0, .int .u64 0] 90)) := push hb00 _
  have hr0 : ((w.alloc (.cells #[.slice none 0 0, .slice none 0 0] 26)).alloc (.cells #[.slice ao n c, .int .i64 0, .int .u64 0] 90)).heap[w.heap.size]? = some (.cells #[.slice none 0 0, .slice none 0 0] 26 (0, 0)) := blk_alloc (heap_alloc_new w _) _
  have hsz : ((w.alloc (.cells #[.slice none 0 0, .slice none 0 0] 26)).alloc (.cells #[.slice ao n c, .int .i64 0, .int .u64 0] 90)).heap.size = w.heap.size + 1 + 1 := by simp
  rw [World.size_alloc] at hc0
  go_enter Try.func8, Try.ntmps8
  go_wp2_with fail
  generalize (w.alloc (.cells #[.slice none 0 0, .slice none 0 0] 26)).alloc (.cells #[.slice ao n c, .int .i64 0, .int .u64 0] 90) = w0 at hc0 hb0 hr0 hsz ⊢
  refine (arena_any (w.heap.size + 1) ao n c 0 _ (by omega) hc0).mono ?_
  rintro e w1 ⟨⟨s, t, vl, rfl, ha1⟩, hc1, hk1⟩
  have hr1 := hk1.blk hr0 (by omega)
  obtain ⟨qa, qb, qn, qm, qc, qd, QA, QU, QV, QF, rfl, rfl, q1, q2, q3, q4⟩ := ha1
  have ha1 : ArnIs w1 (w0.heap.size + 2) 21 (.slice qa qn qc) (.slice qb qm qd) := ⟨qa, qb, qn, qm, qc, qd, QA, QU, QV, QF, rfl, rfl, q1, q2, q3, q4⟩
  have hs1 := hk1.size
  have hbx := heap_alloc_new w1 (.cells #[.slice qa qn qc, .slice qb qm qd] 26)
  have hbz : Below w1.heap.size w1 (w1.alloc (.cells #[.slice qa qn qc, .slice qb qm qd] 26)) := push (Below.refl _ _) _
  have HC2 : Hid (CurIs (w1.alloc (.cells #[.slice qa qn qc, .slice qb qm qd] 26)).drew (w.heap.size + 1) ao n c (0 + 1000)) := hc1.below hbz.drew
  have HA2 : Hid (ArnIs (w1.alloc (.cells #[.slice qa qn qc, .slice qb qm qd] 26)).drew (w0.heap.size + 2) 21 (.slice qa qn qc) (.slice qb qm qd)) := ha1.below hbz.drew
  have HK2 : Hid (Kept w0 (w1.alloc (.cells #[.slice qa qn qc, .slice qb qm qd] 26)).drew (fun b => b = w.heap.size + 1)) := hk1.trans (Kept.of_below hbz.drew)
  have HR2 : Hid ((w1.alloc (.cells #[.slice qa qn qc, .slice qb qm qd] 26)).drew.heap[w.heap.size]? = some (.cells #[.slice none 0 0, .slice none 0 0] 26 (0, 0))) := blk_alloc hr1 _
  have HB0 : Hid (Below w.heap.size w w0) := hb0
  go_upto_region 3 with fail
  generalize hW : w1.alloc (.cells #[.slice qa qn qc, .slice qb qm qd] 26) = W at hbx HC2 HA2 HK2 HR2 ⊢
  have p0 := blk_cell hbx 0 _ rfl
  have p1 := blk_cell hbx 1 _ rfl
  have hlb : w1.heap.size < W.heap.size := blk_lt hbx
  clear hW hc1 hk1 hr1 ha1 hc0 hb0 hr0 hb00 q3 q4
  go_region_with (first | (go_at_call 45; refine Calls.mono (sized_any (w.heap.size + 1) ao n c (0 + 1000) _ (by omega) HC2.out) ?_; rintro e w3 ⟨⟨u, rfl⟩, hc3, hk3⟩; have HR3 : Hid (w3.heap[w.heap.size]? = some (.cells #[.slice none 0 0, .slice none 0 0] 26 (0, 0))) := hk3.blk HR2.out (by omega); have y0 := blk_cell HR3.out 0 _ rfl; have y1 := blk_cell HR3.out 1 _ rfl; have f0 := blk_free HR3.out 0; have f1 := blk_free HR3.out 1; have hb3 := hk3.blk (b := w1.heap.size) (blk_drew hbx) (by omega); have v0 := blk_cell hb3 0 _ rfl; have v1 := blk_cell hb3 1 _ rfl; have HA3 : Hid (ArnIs w3 (w0.heap.size + 2) 21 (.slice qa qn qc) (.slice qb qm qd)) := HA2.out.kept hk3 (fun b e => by omega); have HK3 : Hid (Kept w0 w3 (fun b => b = w.heap.size + 1)) := HK2.out.trans hk3; clear hc3 hk3 hb3))
  all_goals
    have rF := two_set HR3.out (.slice qa qn qc) (.slice qb qm qd)
    have k0 := blk_cell rF 0 _ rfl
    have k1 := blk_cell rF 1 _ rfl
    have HA4 : Hid (ArnIs ((w3.setCell ⟨w.heap.size, 0, none⟩ (.slice qa qn qc)).setCell ⟨w.heap.size, 1, none⟩ (.slice qb qm qd)) (w0.heap.size + 2) 21 (.slice qa qn qc) (.slice qb qm qd)) := HA3.out.boxT HR3.out (by decide) (by decide) (kept_two _ _ _ _)
    have HB4 : Hid (Below w.heap.size w ((w3.setCell ⟨w.heap.size, 0, none⟩ (.slice qa qn qc)).setCell ⟨w.heap.size, 1, none⟩ (.slice qb qm qd))) := ((Kept.below HB0.out (by omega) HK3.out (fun b hb => by omega)).setCell (by show w.heap.size ≤ w.heap.size; omega) _).setCell (by show w.heap.size ≤ w.heap.size; omega) _
    clear rF
    go_wp2
    exact bodyPost_ret (v := .tuple #[.agg #[.slice qa qn qc, .slice qb qm qd], .int .i64 u]) (by simp [results, Try.results8, go_sem, k0, k1]) rfl ⟨⟨_, _, _, rfl, HA4.out.base (by omega)⟩, HB4.out⟩

end Go.Proofs.Ytclcjnbjpelcjaa
