/-
  OWN TEXT: the contract of popHeap over routes.
-/
import Derived.Test.YtaalhmaacaahhahSinkI
namespace Go.Proofs.Ytaalhmaacaahhah
open Go.RowKit

theorem own_cut {w : World} {base e g n cap : Nat} {f : Nat → Value} (h : w.ownsRow base e 3 (.slice (some ⟨g, 0, none⟩) (n + 1) cap) (n + 1) ((List.range ((n + 1) * 3)).map f)) : w.ownsRow base e 3 (.slice (some ⟨g, 0, none⟩) n cap) n ((List.range (n * 3)).map f) := by
  refine ⟨by simp, .inr ?_⟩
  rcases h.2 with ⟨e', _⟩ | ⟨g', cap', cur, e', hb, hg, hc, hm, hs, ht⟩
  · cases e'
  · simp only [Value.slice.injEq, Option.some.injEq, Addr.mk.injEq, and_true, true_and] at e'
    obtain ⟨rfl, rfl⟩ := e'
    refine ⟨g, cap, cur, rfl, hb, hg, by omega, hm, hs, ?_⟩
    apply List.ext_getElem?
    intro i
    have hi := congrArg (fun l => l[i]?) ht
    simp only [List.getElem?_take, List.getElem?_map] at hi ⊢
    by_cases h3 : i < n * 3
    · rw [if_pos h3]
      rw [if_pos (by omega), List.getElem?_range (by omega)] at hi
      rw [hi, List.getElem?_range h3]
    · rw [if_neg h3, List.getElem?_eq_none (by simpa using h3)]; rfl
theorem HeapAt.cut {w : World} {base g n cap : Nat} {H : Nat → Rt} (h : HeapAt w base g (n + 1) cap H) : HeapAt w base g n cap H :=
  ⟨own_cut h.1, fun i hi => h.2 i (by omega)⟩

/-- The first one is taken off the heap. -/
def Popped (w w' : World) (base g n cap : Nat) (H : Nat → Rt) : Prop := ∃ H', HeapAt w' base g n cap H' ∧ Heap RBefR n H' ∧ (∀ f, tot f H' n + f (H 0) = tot f H (n + 1)) ∧ Kept w w' (fun b => b = g)

set_option maxHeartbeats 1600000 in
set_option maxRecDepth 100000 in
theorem pop_any (base g n cap : Nat) (H : Nat → Rt) (w : World) (hn : n + 1 ≤ 1048576) (hh : HeapAt w base g (n + 1) cap H) (hp : Heap RBefR (n + 1) H) :
    Calls Try.prog 72 #[.slice (some ⟨g, 0, none⟩) (n + 1) cap, .func (.func 73) #[] #[]] w fun e w' => e = .returned (.tuple #[.agg #[(H 0).v, .string (H 0).pl, .int .i64 (H 0).t], .slice (some ⟨g, 0, none⟩) n cap]) ∧ Popped w w' base g n cap H := by
  have HP : Hid (Heap RBefR (n + 1) H) := hp
  have HH : Hid (HeapAt w base g (n + 1) cap H) := hh
  obtain ⟨p0, p1, p2⟩ := hh.cells (i := 0) (by omega)
  obtain ⟨q0, q1, q2⟩ := hh.cells (i := n) (by omega)
  have f0 := hh.free (0 * 3)
  have f1 := hh.free (0 * 3 + 1)
  have f2 := hh.free (0 * 3 + 2)
  have hgl := hh.lt
  obtain ⟨fa, fl, ef, _⟩ := (hh.2 0 (by omega)).form
  obtain ⟨na, nl, en, _⟩ := (hh.2 n (by omega)).form
  have EF : Hid ((H 0).v = .slice fa (H 0).ls.length fl) := ef
  have EN : Hid ((H n).v = .slice na (H n).ls.length nl) := en
  rw [ef] at p0
  rw [en] at q0
  rw [ef]
  clear ef en hp hh
  simp only [Nat.zero_mul, Nat.zero_add] at p0 p1 p2 f0 f1 f2
  have i1 : (0 : Int) < (n : Int) + 1 := by omega
  have i2 : (n : Int) < (n : Int) + 1 := by omega
  have i3 : (n : Int) ≤ (cap : Int) := by omega
  have hg1 := hgl.1
  go_enter Try.func72, Try.ntmps72
  go_wp2_with fail
  have h1 := (HH.out.upd 0 (HH.out.2 n (by omega))).cut
  unfold set3 at h1
  rw [EN.out] at h1
  simp only [Nat.zero_mul, Nat.zero_add] at h1
  have k1 := set3_kept w g 0 (.slice na (H n).ls.length nl) (.string (H n).pl) (.int .i64 (H n).t)
  unfold set3 at k1
  simp only [Nat.zero_add] at k1
  have hsz := k1.size
  have hsz2 : (((w.setCell ⟨g, 0, none⟩ (.slice na (H n).ls.length nl)).setCell ⟨g, 1, none⟩ (.string (H n).pl)).setCell ⟨g, 2, none⟩ (.int .i64 (H n).t)).heap.size = w.heap.size := by simp
  generalize hW : ((w.setCell ⟨g, 0, none⟩ (.slice na (H n).ls.length nl)).setCell ⟨g, 1, none⟩ (.string (H n).pl)).setCell ⟨g, 2, none⟩ (.int .i64 (H n).t) = W at h1 k1 hsz hsz2 ⊢
  clear hW
  have h2 := h1.below (push (push (Below.refl _ W) (.cells #[.slice none 0 0, .string ⟨#[]⟩, .int .i64 0] 68)) (.cells #[.slice fa (H 0).ls.length fl, .string (H 0).pl, .int .i64 (H 0).t] 68))
  have hr : ((W.alloc (.cells #[.slice none 0 0, .string ⟨#[]⟩, .int .i64 0] 68)).alloc (.cells #[.slice fa (H 0).ls.length fl, .string (H 0).pl, .int .i64 (H 0).t] 68)).heap[w.heap.size]? = some (.cells #[.slice none 0 0, .string ⟨#[]⟩, .int .i64 0] 68 (0, 0)) := by rw [← hsz2]; exact blk_alloc (heap_alloc_new W _) _
  have hx : ((W.alloc (.cells #[.slice none 0 0, .string ⟨#[]⟩, .int .i64 0] 68)).alloc (.cells #[.slice fa (H 0).ls.length fl, .string (H 0).pl, .int .i64 (H 0).t] 68)).heap[w.heap.size + 1]? = some (.cells #[.slice fa (H 0).ls.length fl, .string (H 0).pl, .int .i64 (H 0).t] 68 (0, 0)) := by rw [← hsz2]; simpa using heap_alloc_new (W.alloc _) _
  have k2 : Kept w ((W.alloc (.cells #[.slice none 0 0, .string ⟨#[]⟩, .int .i64 0] 68)).alloc (.cells #[.slice fa (H 0).ls.length fl, .string (H 0).pl, .int .i64 (H 0).t] 68)) (fun b => b = g) := k1.trans (Kept.of_below (push (push (Below.refl _ W) _) _))
  refine (sink_any base g n cap (upd H 0 (H n)) _ (by omega) h2 (heap_pop HP.out)).mono ?_
  rintro e w3 ⟨⟨v, rfl⟩, H', hh3, hp3, ht3, hk3⟩
  have HH3 : Hid (HeapAt w3 base g n cap H') := hh3
  have HP3 : Hid (Heap RBefR n H') := hp3
  have HT3 : Hid (∀ f, tot f H' n = tot f (upd H 0 (H n)) n) := ht3
  have HK3 : Hid (Kept w w3 (fun b => b = g)) := k2.trans hk3
  have hr3 := hk3.blk hr (by omega)
  have hx3 := hk3.blk hx (by omega)
  clear hh3 hp3 ht3 hk3 k2 hr hx h2 h1 k1 hsz hsz2 p0 p1 p2 q0 q1 q2 f0 f1 f2 HP
  have a0 := blk_cell hx3 0 _ rfl
  have a1 := blk_cell hx3 1 _ rfl
  have a2 := blk_cell hx3 2 _ rfl
  have r0 := blk_cell hr3 0 _ rfl
  have r1 := blk_cell hr3 1 _ rfl
  have r2 := blk_cell hr3 2 _ rfl
  have z0 := blk_free hr3 0
  have z1 := blk_free hr3 1
  have z2 := blk_free hr3 2
  go_wp2
  clear a0 a1 a2 r0 r1 r2 z0 z1 z2
  have rF := blk_set (blk_set (blk_set hr3 0 (.slice fa (H 0).ls.length fl)) 1 (.string (H 0).pl)) 2 (.int .i64 (H 0).t)
  have y0 := blk_cell rF 0 _ rfl
  have y1 := blk_cell rF 1 _ rfl
  have y2 := blk_cell rF 2 _ rfl
  have kF : Kept w3 (((w3.setCell ⟨w.heap.size, 0, none⟩ (.slice fa (H 0).ls.length fl)).setCell ⟨w.heap.size, 1, none⟩ (.string (H 0).pl)).setCell ⟨w.heap.size, 2, none⟩ (.int .i64 (H 0).t)) (fun b => b = w.heap.size) := set3_kept w3 w.heap.size 0 _ _ _
  refine bodyPost_ret (v := .tuple #[.agg #[.slice fa (H 0).ls.length fl, .string (H 0).pl, .int .i64 (H 0).t], .slice (some ⟨g, 0, none⟩) n cap]) (by simp [results, Try.results72, go_sem, y0, y1, y2]) rfl ⟨rfl, H', ⟨kF.own HH3.out.1 (fun g' hg' e => by simp [Value.ownBlock] at hg'; omega), fun i hi => ⟨kF.own (HH3.out.2 i hi).1 (fun g' hg' e => ?_), (HH3.out.2 i hi).2⟩⟩, HP3.out, fun f => ?_, ⟨kF.os.trans HK3.out.os, kF.tape.trans HK3.out.tape, kF.output.trans HK3.out.output, Nat.le_trans HK3.out.size kF.size, fun i hi hne => (kF.block i (Nat.lt_of_lt_of_le hi HK3.out.size) (by omega)).trans (HK3.out.block i hi hne)⟩⟩
  · rcases (HH3.out.2 i hi).1.2 with ⟨e1, _⟩ | ⟨g2, c2, cur, e1, _, hg2, _⟩
    · rw [e1] at hg'; simp [Value.ownBlock] at hg'
    · rw [e1] at hg'
      simp only [Value.ownBlock, Option.some.injEq] at hg'
      subst hg'
      rw [e, hr3] at hg2
      simp at hg2
  · rw [HT3.out f]
    by_cases n0 : n = 0
    · subst n0; simp [tot]
    · have := tot_upd f H 0 (H n) (n := n) (by omega)
      show _ = tot f H n + f (H n)
      exact this

end Go.Proofs.Ytaalhmaacaahhah
