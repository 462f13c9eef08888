/-
  OWN TEXT: DrawK, KitDk.
-/
import Derived.Test.YtdmkpflphjemoaaB29
import Derived.Test.YtdmkpflphjemoaaB23
import Derived.Test.YtdmkpflphjemoaaB28
namespace Go.Proofs.Ytdmkpflphjemoaa
open Go.RowKit

/-- A cursor that stands behind new blocks. -/
theorem CurIs.below {w w' : World} {cb n c a : Nat} {ao : Option Addr} (h : CurIs w cb ao n c a) (hb : Below w.heap.size w w') : CurIs w' cb ao n c a := by
  obtain ⟨⟨p, s, hp, hk⟩, hc⟩ := h
  exact ⟨⟨p, s, hp, blk_below hk hb⟩, hc.kept (Kept.of_below hb)⟩

theorem CurIs.lt {w : World} {cb n c a : Nat} {ao : Option Addr} (h : CurIs w cb ao n c a) : cb < w.heap.size := by
  obtain ⟨⟨p, s, hp, hb⟩, _⟩ := h
  exact blk_lt hb

theorem CurIs.code_lt {w : World} {cb n c a : Nat} {ao : Option Addr} (h : CurIs w cb ao n c a) : ∀ k, k < n → ∀ b off, ao = some ⟨b, off, none⟩ → b < w.heap.size := by
  intro k hk b off e
  obtain ⟨b', off', v, e', _, hcell, _, _⟩ := h.2 k hk
  rw [e] at e'
  cases e'
  exact World.block_lt_of_cell? w _ hcell

set_option maxHeartbeats 800000 in
theorem amongL (cb : Nat) (ao : Option Addr) (n c a : Nat) (m : Nat) (l : List Int) (w : World) (hl : l.length = m) (ha : a ≤ 900000000000000000) (hm : 1 ≤ m) (hm2 : m ≤ 100000) (h : CurIs w cb ao n c a) (b : Nat) (hb : w.heap[b]? = some (.cells (l.map (fun x => Value.int .i64 x)).toArray 3 (0, 0))) (hne : b ≠ cb) :
    Calls Try.prog 18 #[.pointer (some ⟨cb, 0, none⟩), .slice (some ⟨b, 0, none⟩) m m] w fun e w' => (∃ x : Int, e = .returned (.int .i64 x)) ∧ CurIs w' cb ao n c (a + 2) ∧ Kept w w' (fun b => b = cb) := by
  refine among_any cb ao n c a b 0 m m (fun k => l.getD k 0) w ha hm hm2 h hne (fun k hk => ?_)
  rw [Nat.zero_add]
  refine blk_cell hb k _ ?_
  simp only [List.getElem?_toArray, List.getElem?_map, List.getD_eq_getElem?_getD]
  rw [List.getElem?_eq_getElem (by omega)]
  rfl

/-- The bytes at ao can be read. -/
def BytesAt (w : World) (ao : Option Addr) (n : Nat) : Prop := ∀ k, k < n → ∃ b off v, ao = some ⟨b, off, none⟩ ∧ w.cell? ⟨b, off + k, none⟩ = some (.int .u8 v) ∧ 0 ≤ v ∧ v ≤ 255

theorem BytesAt.below {w w' : World} {ao : Option Addr} {n : Nat} (h : BytesAt w ao n) (hb : Below w.heap.size w w') : BytesAt w' ao n := by
  intro k hk
  obtain ⟨b, off, v, e, hc, h1, h2⟩ := h k hk
  exact ⟨b, off, v, e, (hb.cell (World.block_lt_of_cell? w _ hc)).trans hc, h1, h2⟩

theorem cur_new {w : World} {ao : Option Addr} {n c : Nat} (h : BytesAt w ao n) : CurIs (w.alloc (.cells #[.slice ao n c, .int .i64 0, .int .u64 0] 45)) w.heap.size ao n c 0 := by
  refine ⟨⟨0, 0, Nat.le_refl _, heap_alloc_new w _⟩, fun k hk => ?_⟩
  obtain ⟨b, off, v, e, hc, h1, h2⟩ := h k hk
  have hlt : b < w.heap.size := World.block_lt_of_cell? w _ hc
  exact ⟨b, off, v, e, by omega, ((push (Below.refl _ w) _).cell (p := ⟨b, off + k, none⟩) hlt).trans hc, h1, h2⟩

end Go.Proofs.Ytdmkpflphjemoaa

namespace Go.Proofs.Ytdmkpflphjemoaa
open Go.RowKit

theorem LocksL.keptBy {w w' : World} {base : Nat} {v : Value} {ls : List LockW} {S : Nat → Prop} (L : LocksL w base v ls) (hk : Kept w w' S) (hS : ∀ b, base ≤ b → ¬ S b) : LocksL w' base v ls := by
  obtain ⟨hs, qs, h⟩ := L
  exact ⟨hs, qs, h.kept hk (fun b e => hS b (h.lim b e).1)⟩
/-- Locks that are drawn, at hand. -/
structure KSit (w u : World) (cb : Nat) (ao : Option Addr) (n c a m : Nat) (v : Value) (ls : List LockW) : Prop where
  cur : CurIs u cb ao n c a
  kept : Kept w u (fun b => b = cb)
  lie : LocksL u w.heap.size v ls
  few : ls.length ≤ m ∧ ShortL ls 24
theorem KSit.on {w u u' : World} {cb n c a a' m : Nat} {ao : Option Addr} {v : Value} {ls : List LockW} (h : KSit w u cb ao n c a m v ls) (hcb : cb < w.heap.size) (hc : CurIs u' cb ao n c a') (hk : Kept u u' (fun b => b = cb)) : KSit w u' cb ao n c a' m v ls :=
  ⟨hc, h.kept.trans hk, h.lie.keptBy hk (fun b hb e => by have e : b = cb := e; omega), h.few⟩
theorem KSit.below {w u u' : World} {cb n c a m : Nat} {ao : Option Addr} {v : Value} {ls : List LockW} (h : KSit w u cb ao n c a m v ls) (hb : Below u.heap.size u u') : KSit w u' cb ao n c a m v ls :=
  ⟨h.cur.below hb, h.kept.trans (Kept.of_below hb), h.lie.below hb, h.few⟩
theorem KSit.more {w u : World} {cb n c a b m : Nat} {ao : Option Addr} {v : Value} {ls : List LockW} (h : KSit w u cb ao n c a m v ls) (hab : a ≤ b) : KSit w u cb ao n c b m v ls := ⟨h.cur.more hab, h.kept, h.lie, h.few⟩
theorem KSit.to {w u u' : World} {cb n c a m m' : Nat} {ao : Option Addr} {v v' : Value} {ls ls' : List LockW} (h : KSit w u cb ao n c a m v ls) (hb : Below u.heap.size u u') (hl : LocksL u' u.heap.size v' ls') (hf : ls'.length ≤ m' ∧ ShortL ls' 24) : KSit w u' cb ao n c a m' v' ls' :=
  ⟨h.cur.below hb, h.kept.trans (Kept.of_below hb), hl.base h.kept.size, hf⟩
/-- Locks that can be read, now and as long as the cursor alone is written. -/
def LocksR (u : World) (cb : Nat) (v : Value) : Prop := ∃ (b : Option Addr) (N d : Nat) (K : Nat → Int) (H Q : Nat → Line), v = .slice b N d ∧ N ≤ d ∧ N ≤ 1000 ∧ ShortTo N H Q 1000 ∧ ∀ u', Kept u u' (fun b => b = cb) → LocksAt u' b N K H Q
theorem LocksL.reads {u : World} {cb base : Nat} {v : Value} {ls : List LockW} (h : LocksL u base v ls) (hcb : cb < base) (h1 : ls.length ≤ 1000) (h2 : ShortL ls 1000) : LocksR u cb v := by
  obtain ⟨b, d, rfl, h3, h4⟩ := h.form
  obtain ⟨hs, qs, h5⟩ := h4
  obtain ⟨b', d', e, h6, _, _⟩ := own_form h5.row
  cases e
  refine ⟨b, ls.length, d, keyF ls, heldF ls, queueF ls, rfl, h6, h1, h2.to, fun u' hk => ?_⟩
  have := LocksL.keptBy (L := (⟨hs, qs, h5⟩ : LocksL u base (.slice b ls.length d) ls)) hk (fun g hg e => by have e : g = cb := e; omega)
  obtain ⟨hs', qs', h7⟩ := this
  exact h7.at_
theorem LocksR.kept {u u' : World} {cb : Nat} {v : Value} (h : LocksR u cb v) (hk : Kept u u' (fun b => b = cb)) : LocksR u' cb v := by
  obtain ⟨b, N, d, K, H, Q, e, h1, h2, h3, h4⟩ := h
  exact ⟨b, N, d, K, H, Q, e, h1, h2, h3, fun u'' hk' => h4 u'' (hk.trans hk')⟩
/-- The end of a drawing of locks. -/
structure KEnd (w u : World) (cb : Nat) (ao : Option Addr) (n c a : Nat) (v : Value) : Prop where
  cur : CurIs u cb ao n c a
  kept : Kept w u (fun b => b = cb)
  reads : LocksR u cb v
theorem KEnd.more {w u : World} {cb n c a b : Nat} {ao : Option Addr} {v : Value} (h : KEnd w u cb ao n c a v) (hab : a ≤ b) : KEnd w u cb ao n c b v := ⟨h.cur.more hab, h.kept, h.reads⟩
theorem KSit.fin {w u : World} {cb n c a b m : Nat} {ao : Option Addr} {v : Value} {ls : List LockW} (h : KSit w u cb ao n c a m v ls) (hcb : cb < w.heap.size) (hab : a ≤ b) (hm : m ≤ 1000) : KEnd w u cb ao n c b v :=
  ⟨h.cur.more hab, h.kept, h.lie.reads hcb (by have := h.few.1; omega) (fun x hx => by have := h.few.2 x hx; omega)⟩
/-- Writing into memory that the drawing has made. -/
theorem CurIs.far {w u u' : World} {cb n c a : Nat} {ao : Option Addr} (h : CurIs u cb ao n c a) {S : Nat → Prop} (hk : Kept u u' S) (hcb : cb < w.heap.size) (hl : ∀ k, k < n → ∀ b off, ao = some ⟨b, off, none⟩ → b < w.heap.size) (hS : ∀ b, S b → w.heap.size ≤ b) : CurIs u' cb ao n c a := by
  obtain ⟨⟨p, s, hp, hb⟩, hc⟩ := h
  refine ⟨⟨p, s, hp, hk.blk hb (fun e => by have := hS _ e; omega)⟩, fun k hk' => ?_⟩
  obtain ⟨b, off, v, e, hne, hcell, h1, h2⟩ := hc k hk'
  exact ⟨b, off, v, e, hne, hk.cellAt hcell (fun e2 => by have h8 : w.heap.size ≤ b := hS _ e2; have := hl k hk' b off e; omega), h1, h2⟩
theorem Kept.far {w u u' : World} {cb : Nat} (h : Kept w u (fun b => b = cb)) {S : Nat → Prop} (hk : Kept u u' S) (hS : ∀ b, S b → w.heap.size ≤ b) : Kept w u' (fun b => b = cb) := by
  refine ⟨hk.os.trans h.os, hk.tape.trans h.tape, hk.output.trans h.output, Nat.le_trans h.size hk.size, fun i hi hne => ?_⟩
  exact (hk.block i (Nat.lt_of_lt_of_le hi h.size) (fun e => by have := hS _ e; omega)).trans (h.block i hi hne)

/-- A lock with one that holds it, in new memory. -/
theorem two_new {u : World} {x key : Int} {s : Bool} : Below u.heap.size u ((u.alloc (.cells #[.int .i64 x, .bool s] 57)).alloc (.cells #[.int .i64 key, .slice (some ⟨u.heap.size, 0, none⟩) 1 1, .slice none 0 0] 60)) ∧
    AsksIs ((u.alloc (.cells #[.int .i64 x, .bool s] 57)).alloc (.cells #[.int .i64 key, .slice (some ⟨u.heap.size, 0, none⟩) 1 1, .slice none 0 0] 60)) u.heap.size (.slice (some ⟨u.heap.size, 0, none⟩) 1 1) [(x, s)] ∧
    ((u.alloc (.cells #[.int .i64 x, .bool s] 57)).alloc (.cells #[.int .i64 key, .slice (some ⟨u.heap.size, 0, none⟩) 1 1, .slice none 0 0] 60)).heap.size = u.heap.size + 2 ∧
    (∀ j v, ([.int .i64 key, .slice (some ⟨u.heap.size, 0, none⟩) 1 1, .slice none 0 0] : List Value)[j]? = some v → ((u.alloc (.cells #[.int .i64 x, .bool s] 57)).alloc (.cells #[.int .i64 key, .slice (some ⟨u.heap.size, 0, none⟩) 1 1, .slice none 0 0] 60)).cell? ((⟨u.heap.size + 1, 0, none⟩ : Addr).add j) = some v) := by
  refine ⟨push (push (Below.refl _ _) _) _, ⟨rfl, .inr ⟨u.heap.size, 1, #[.int .i64 x, .bool s], rfl, Nat.le_refl _, blk_alloc (heap_alloc_new u _) _, Nat.le_refl _, by unfold maxLen; omega, rfl, rfl⟩⟩, by simp, ?_⟩
  have h1 := heap_alloc_new (u.alloc (.cells #[.int .i64 x, .bool s] 57)) (.cells #[.int .i64 key, .slice (some ⟨u.heap.size, 0, none⟩) 1 1, .slice none 0 0] 60)
  rw [show (u.alloc (.cells #[.int .i64 x, .bool s] 57)).heap.size = u.heap.size + 1 by simp] at h1
  exact World.news_of_block (cs := #[.int .i64 key, .slice (some ⟨u.heap.size, 0, none⟩) 1 1, .slice none 0 0]) (t := 60) (fr := (0, 0)) h1
/-- One lock more. -/
theorem KSit.snoc {w u Y w7 : World} {cb n c a m : Nat} {ao : Option Addr} {v v7 hv : Value} {ls : List LockW} {hs qs : Nat → Value} {x key : Int} {s : Bool} (h : KSit w u cb ao n c a m v ls) (hcb : cb < w.heap.size) (hl : ∀ k, k < n → ∀ b off, ao = some ⟨b, off, none⟩ → b < w.heap.size)
    (L : LocksOwn u w.heap.size ls.length v (keyF ls) (heldF ls) (queueF ls) hs qs) (hb : Below u.heap.size u Y) (h1 : AsksIs Y u.heap.size hv [(x, s)]) (hg : Y.grownBy w7 v.ownBlock)
    (ho : w7.ownsRow w.heap.size 60 3 v7 (ls.length + 1) ((List.range (ls.length * 3)).map (lockCell (keyF ls) hs qs) ++ [.int .i64 key, hv, .slice none 0 0])) :
    KSit w w7 cb ao n c a (m + 1) v7 (ls ++ [(key, [(x, s)], [])]) := by
  have LY := L.below hb
  have hk7 := kept_by hg
  have hS : ∀ b, v.ownBlock = some b → w.heap.size ≤ b := fun b e => (LY.row.lt b e).1
  refine ⟨(h.cur.below hb).far hk7 hcb hl hS, (h.kept.trans (Kept.of_below hb)).far hk7 hS, ⟨_, _, LocksOwn.snocL (lim := u.heap.size) (h := [(x, s)]) (q := []) LY (fun b e => (L.lim b e).2) h1 ⟨rfl, .inl ⟨rfl, rfl⟩⟩ (fun b _ e => by simp [Value.ownBlock] at e) h.kept.size hg ho⟩, ?_, ?_⟩
  · have := h.few.1; simp; omega
  · intro b hb
    rcases List.mem_append.1 hb with e | e
    · exact h.few.2 b e
    · simp only [List.mem_singleton] at e
      subst e
      simp
/-- Nobody holds the first lock. -/
theorem KSit.unheld {w u : World} {cb n c a m g d : Nat} {ao : Option Addr} {ls : List LockW} (h : KSit w u cb ao n c a m (.slice (some ⟨g, 0, none⟩) ls.length d) ls) (hcb : cb < w.heap.size) (hl : ∀ k, k < n → ∀ b off, ao = some ⟨b, off, none⟩ → b < w.heap.size) (h0 : 0 < ls.length) (hm : m ≤ 1000) :
    KEnd w (u.setCell ⟨g, 1, none⟩ (.slice none 0 0)) cb ao n c a (.slice (some ⟨g, 0, none⟩) ls.length d) := by
  obtain ⟨hs, qs, L⟩ := h.lie
  have hS : ∀ b, b = g → w.heap.size ≤ b := fun b e => by have := (L.row.lt g rfl).1; omega
  have hk : Kept u (u.setCell ⟨g, 1, none⟩ (.slice none 0 0)) (fun b => b = g) := (Kept.refl u (fun b => b = g)).set (a := ⟨g, 1, none⟩) rfl _
  have L2 := L.putHeld (p := 0) (v2 := .slice none 0 0) (l := lineOf []) (w1 := u) h0 (Kept.refl _ _) ⟨rfl, .inl ⟨rfl, rfl⟩⟩ (fun b e => by simp [Value.ownBlock] at e)
  rw [show 0 * 3 + 1 = 1 by rfl] at L2
  have h2 := L2.told
  have e1 : (locksP ls.length (keyF ls) (setF (heldF ls) 0 (lineOf [])) (queueF ls)).length = ls.length := by simp [locksP]
  refine ⟨h.cur.far hk hcb hl hS, h.kept.far hk hS, h2.reads hcb (by rw [e1]; have := h.few.1; omega) (locksP_short fun i hi => ?_)⟩
  have h3 := h.few.2.to i hi
  by_cases e : i = 0
  · subst e; rw [setF_at]; exact ⟨by simp [lineOf], by omega⟩
  · rw [setF_ne e]; omega
/-- One more waits at the first lock. -/
theorem KSit.waits {w u u7 : World} {cb n c a m g d : Nat} {ao : Option Addr} {ls : List LockW} {hs qs : Nat → Value} {v2 : Value} {x : Int} {s : Bool} (h : KSit w u cb ao n c a m (.slice (some ⟨g, 0, none⟩) ls.length d) ls) (hcb : cb < w.heap.size) (hl : ∀ k, k < n → ∀ b off, ao = some ⟨b, off, none⟩ → b < w.heap.size) (h0 : 0 < ls.length) (hm : m ≤ 1000)
    (L : LocksOwn u w.heap.size ls.length (.slice (some ⟨g, 0, none⟩) ls.length d) (keyF ls) (heldF ls) (queueF ls) hs qs) (hk7 : Kept u u7 (fun b => (qs 0).ownBlock = some b)) (ho : AsksIs u7 w.heap.size v2 ((ls.getD 0 (0, [], [])).2.2 ++ [(x, s)])) (hat : ∀ b, v2.ownBlock = some b → (qs 0).ownBlock = some b ∨ u.heap.size ≤ b) :
    KEnd w (u7.setCell ⟨g, 2, none⟩ v2) cb ao n c a (.slice (some ⟨g, 0, none⟩) ls.length d) := by
  have hS : ∀ b, b = g → w.heap.size ≤ b := fun b e => by have := (L.row.lt g rfl).1; omega
  have hS7 : ∀ b, (qs 0).ownBlock = some b → w.heap.size ≤ b := fun b e => ((L.queue 0 h0).lt b e).1
  have hk : Kept u7 (u7.setCell ⟨g, 2, none⟩ v2) (fun b => b = g) := (Kept.refl u7 (fun b => b = g)).set (a := ⟨g, 2, none⟩) rfl _
  have L2 := L.putWait (p := 0) (v2 := v2) (l := lineOf ((ls.getD 0 (0, [], [])).2.2 ++ [(x, s)])) (w1 := u7) h0 hk7 (by rw [askList_lineOf]; exact ho) hat
  rw [show 0 * 3 + 2 = 2 by rfl] at L2
  have h2 := L2.told
  have e1 : (locksP ls.length (keyF ls) (heldF ls) (setF (queueF ls) 0 (lineOf ((ls.getD 0 (0, [], [])).2.2 ++ [(x, s)])))).length = ls.length := by simp [locksP]
  refine ⟨(h.cur.far hk7 hcb hl hS7).far hk hcb hl hS, (h.kept.far hk7 hS7).far hk hS, ?_⟩
  have h4 := h2.reads (cb := cb) hcb (by rw [e1]; have := h.few.1; omega) (locksP_short fun i hi => ?_)
  · exact h4
  · have h3 := h.few.2.to i hi
    by_cases e : i = 0
    · subst e; rw [setF_at]
      have h5 : (queueF ls 0).n = (ls.getD 0 (0, [], [])).2.2.length := rfl
      refine ⟨by omega, ?_⟩
      simp only [lineOf, List.length_append, List.length_cons, List.length_nil]
      omega
    · rw [setF_ne e]; omega
/-- The last sixty. -/
theorem KSit.last {w u : World} {cb n c a m g d : Nat} {ao : Option Addr} {ls : List LockW} (h : KSit w u cb ao n c a m (.slice (some ⟨g, 0, none⟩) ls.length d) ls) (hcb : cb < w.heap.size) (p : Nat) (hp : p ≤ ls.length) (hm : m ≤ 1000) :
    KEnd w u cb ao n c a (.slice (some ⟨g, 0 + p * 3, none⟩) (ls.length - p) (d - p)) := by
  obtain ⟨hs, qs, L⟩ := h.lie
  obtain ⟨_, _, e, hc, _, _⟩ := own_form L.row
  cases e
  refine ⟨h.cur, h.kept, some ⟨g, 0 + p * 3, none⟩, ls.length - p, d - p, (fun i => keyF ls (i + p)), (fun i => heldF ls (i + p)), (fun i => queueF ls (i + p)), rfl, by omega, by have := h.few.1; omega, fun i hi => ⟨Nat.le_trans (h.few.2.to (i + p) (by omega)).1 (by decide), Nat.le_trans (h.few.2.to (i + p) (by omega)).2 (by decide)⟩, fun u' hk => ?_⟩
  have h3 := h.lie.keptBy hk (fun b hb e => by have e : b = cb := e; omega)
  obtain ⟨hs', qs', L'⟩ := h3
  exact locksAt_drop p L'.at_

end Go.Proofs.Ytdmkpflphjemoaa
