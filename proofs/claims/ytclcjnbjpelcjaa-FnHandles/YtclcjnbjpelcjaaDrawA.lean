/-
  OWN TEXT: the drawing of an arena, words: what stands between two steps of it.
-/
import Derived.Test.YtclcjnbjpelcjaaDraw2
import Derived.Deep.DeepCutAuto
import Derived.Deep.RegionLawGrows
namespace Go.Proofs.Ytclcjnbjpelcjaa
open Go.RowKit

/-- The drawing of an arena between two steps: its box, the box of the answer, the cursor, the handles so far. -/
structure ASit (w wr : World) (cb : Nat) (ao : Option Addr) (n c a : Nat) (vl : Value) (k : Nat) : Prop where
  ex : ∃ s t, wr.heap[w.heap.size + 1]? = some (.cells #[s, t] 26 (0, 0)) ∧ ArnIs wr (w.heap.size + 2) 20 s t
  res : wr.heap[w.heap.size]? = some (.cells #[.slice none 0 0, .slice none 0 0] 26 (0, 0))
  cur : CurIs wr cb ao n c a
  own : ∃ f, wr.ownsRow (w.heap.size + 2) 30 2 vl k (handList f k)
  kept : Kept w wr (fun b => b = cb)
theorem CurIs.below {w w' : World} {cb n c a : Nat} {ao : Option Addr} (h : CurIs w cb ao n c a) (hb : Below w.heap.size w w') : CurIs w' cb ao n c a := by
  obtain ⟨⟨p, s, hp, hk⟩, hc⟩ := h
  exact ⟨⟨p, s, hp, blk_below hk hb⟩, hc.kept (Kept.of_below hb)⟩
theorem CurIs.lt {w : World} {cb n c a : Nat} {ao : Option Addr} (h : CurIs w cb ao n c a) : cb < w.heap.size := by
  obtain ⟨⟨p, s, hp, hb⟩, _⟩ := h
  exact blk_lt hb
theorem CurIs.code_lt {w : World} {cb n c a : Nat} {ao : Option Addr} (h : CurIs w cb ao n c a) : ∀ k, k < n → ∀ b off, ao = some ⟨b, off, none⟩ → b < w.heap.size := by
  intro k hk b off e
  obtain ⟨b', off', v, e', _, hcell, _, _⟩ := h.2 k hk
  rw [e] at e'
  cases e'
  exact World.block_lt_of_cell? w _ hcell
/-- Where the code lies, and the cursor. -/
structure Low (w : World) (cb : Nat) (ao : Option Addr) (n : Nat) : Prop where
  cb : cb < w.heap.size
  code : ∀ k, k < n → ∀ b off, ao = some ⟨b, off, none⟩ → b < w.heap.size
theorem CurIs.apart {w w' : World} {cb n c a : Nat} {ao : Option Addr} {w0 : World} {S : Nat → Prop} (h : CurIs w cb ao n c a) (hl : Low w0 cb ao n) (hk : Kept w w' S) (hS : ∀ b, S b → w0.heap.size ≤ b) : CurIs w' cb ao n c a := by
  obtain ⟨⟨p, s, hp, hb⟩, hc⟩ := h
  refine ⟨⟨p, s, hp, hk.blk hb (fun e => by have := hS cb e; have := hl.cb; omega)⟩, fun k hk' => ?_⟩
  obtain ⟨b, off, v, e, hne, hcell, h1, h2⟩ := hc k hk'
  exact ⟨b, off, v, e, hne, hk.cellAt hcell (fun e' => by have h3 := hS b e'; have h4 := hl.code k hk' b off e; omega), h1, h2⟩
theorem row_no_box {w : World} {base e size n xb t : Nat} {v : Value} {xs : List Value} {cs : Array Value} (h : w.ownsRow base e size v n xs) (hx : w.heap[xb]? = some (.cells cs t (0, 0))) (hne : e ≠ t) : v.ownBlock ≠ some xb := by
  intro he
  rcases h.2 with ⟨rfl, _⟩ | ⟨g, cap, cur, rfl, _, hg, _⟩
  · simp [Value.ownBlock] at he
  · simp only [Value.ownBlock, Option.some.injEq] at he
    subst he
    rw [hg] at hx
    simp at hx
    exact hne hx.2
theorem LooseRow.box {w w' : World} {base e size n xb t : Nat} {v : Value} {xs : List Value} {cs : Array Value} (h : LooseRow w base e size v n xs) (hx : w.heap[xb]? = some (.cells cs t (0, 0))) (hne : e ≠ t) (hk : Kept w w' (fun b => b = xb)) : LooseRow w' base e size v n xs := by
  rcases h with h | h
  · exact .inl h
  · exact .inr (hk.own h (fun g hg e' => row_no_box h hx hne (by rw [hg, e'])))
theorem ArnIs.box {w w' : World} {base z xb : Nat} {s t : Value} {cs : Array Value} (h : ArnIs w base z s t) (hx : w.heap[xb]? = some (.cells cs 26 (0, 0))) (hk : Kept w w' (fun b => b = xb)) : ArnIs w' base z s t := by
  obtain ⟨ao, bo, n, m, d1, d2, A, U, V, F, rfl, rfl, h1, h2, h3, h4⟩ := h
  exact ⟨ao, bo, n, m, d1, d2, A, U, V, F, rfl, rfl, h1, h2, h3.box hx (by decide) hk, h4.box hx (by decide) hk⟩
/-- Writes into a box behind the first two. -/
theorem ASit.box {w wr w' : World} {cb n c a k xb : Nat} {ao : Option Addr} {vl : Value} {cs : Array Value} (h : ASit w wr cb ao n c a vl k) (hl : Low w cb ao n) (hx : wr.heap[xb]? = some (.cells cs 26 (0, 0))) (hb : w.heap.size + 2 ≤ xb) (hk : Kept wr w' (fun b => b = xb)) : ASit w w' cb ao n c a vl k := by
  obtain ⟨⟨s, t, h1, h2⟩, h3, h4, ⟨f, h5⟩, h6⟩ := h
  exact ⟨⟨s, t, hk.blk h1 (by omega), h2.box hx hk⟩, hk.blk h3 (by omega), h4.apart hl hk (fun b e => by omega), ⟨f, hk.own h5 (fun g hg e' => row_no_box h5 hx (by decide) (by rw [hg, e']))⟩,
    ⟨hk.os.trans h6.os, hk.tape.trans h6.tape, hk.output.trans h6.output, Nat.le_trans h6.size hk.size, fun i hi hn => (hk.block i (Nat.lt_of_lt_of_le hi h6.size) (by omega)).trans (h6.block i hi hn)⟩⟩
/-- The arena's box gets another arena. -/
theorem ASit.put {w wr : World} {cb n c a k : Nat} {ao : Option Addr} {vl s' t' : Value} (h : ASit w wr cb ao n c a vl k) (hl : Low w cb ao n) (ha : ArnIs wr (w.heap.size + 2) 20 s' t') : ASit w ((wr.setCell ⟨w.heap.size + 1, 0, none⟩ s').setCell ⟨w.heap.size + 1, 1, none⟩ t') cb ao n c a vl k := by
  obtain ⟨⟨s, t, h1, h2⟩, h3, h4, ⟨f, h5⟩, h6⟩ := h
  have hk : Kept wr ((wr.setCell ⟨w.heap.size + 1, 0, none⟩ s').setCell ⟨w.heap.size + 1, 1, none⟩ t') (fun b => b = w.heap.size + 1) := ((Kept.refl wr (fun b => b = w.heap.size + 1)).set (a := ⟨w.heap.size + 1, 0, none⟩) rfl _).set (a := ⟨w.heap.size + 1, 1, none⟩) rfl _
  exact ⟨⟨s', t', blk_set (blk_set h1 0 _) 1 _, ha.box h1 hk⟩, hk.blk h3 (by omega), h4.apart hl hk (fun b e => by omega), ⟨f, hk.own h5 (fun g hg e' => row_no_box h5 h1 (by decide) (by rw [hg, e']))⟩,
    ⟨hk.os.trans h6.os, hk.tape.trans h6.tape, hk.output.trans h6.output, Nat.le_trans h6.size hk.size, fun i hi hn => (hk.block i (Nat.lt_of_lt_of_le hi h6.size) (by omega)).trans (h6.block i hi hn)⟩⟩
/-- The cursor goes on. -/
theorem ASit.on {w wr w' : World} {cb n c a a' k : Nat} {ao : Option Addr} {vl : Value} (h : ASit w wr cb ao n c a vl k) (hl : Low w cb ao n) (hc : CurIs w' cb ao n c a') (hk : Kept wr w' (fun b => b = cb)) : ASit w w' cb ao n c a' vl k := by
  have hcb := hl.cb
  obtain ⟨⟨s, t, h1, h2⟩, h3, h4, ⟨f, h5⟩, h6⟩ := h
  exact ⟨⟨s, t, hk.blk h1 (by omega), h2.kept hk (fun b e => by omega)⟩, hk.blk h3 (by omega), hc, ⟨f, hk.own h5 (fun g hg e' => by have := (h5.lt g hg).1; omega)⟩, h6.trans hk⟩
theorem ASit.below {w wr w' : World} {cb n c a k : Nat} {ao : Option Addr} {vl : Value} (h : ASit w wr cb ao n c a vl k) (hb : Below wr.heap.size wr w') : ASit w w' cb ao n c a vl k := by
  obtain ⟨⟨s, t, h1, h2⟩, h3, h4, ⟨f, h5⟩, h6⟩ := h
  exact ⟨⟨s, t, blk_below h1 hb, h2.below hb⟩, blk_below h3 hb, h4.below hb, ⟨f, own_below hb h5⟩, h6.trans (Kept.of_below hb)⟩
theorem ASit.more {w wr : World} {cb n c a a' k : Nat} {ao : Option Addr} {vl : Value} (h : ASit w wr cb ao n c a vl k) (hab : a ≤ a') : ASit w wr cb ao n c a' vl k :=
  ⟨h.ex, h.res, h.cur.more hab, h.own, h.kept⟩

/-- What a drawn drop or put leaves: a box with an arena, and the code. -/
def CutA (w wx : World) (cb : Nat) (ao : Option Addr) (n c a : Nat) (vl : Value) (k : Nat) (s7 s8 : Value) : Prop :=
  ASit w wx cb ao n c a vl k ∧ ∃ (xb : Nat) (s' t' : Value) (code : Int), s7 = .pointer (some ⟨xb, 0, none⟩) ∧ s8 = .int .i64 code ∧ wx.heap[xb]? = some (.cells #[s', t'] 26 (0, 0)) ∧ w.heap.size + 2 ≤ xb ∧ (code = 0 → ArnIs wx (w.heap.size + 2) 20 s' t')
theorem cutA_set {w w3 : World} {cb n c a k xb : Nat} {ao : Option Addr} {vl v1 v2 z1 z2 : Value} {code : Int} (h : ASit w w3 cb ao n c a vl k) (hl : Low w cb ao n) (hx : w3.heap[xb]? = some (.cells #[z1, z2] 26 (0, 0))) (hb : w.heap.size + 2 ≤ xb)
    (ha : code = 0 → ArnIs w3 (w.heap.size + 2) 20 v1 v2) : CutA w ((w3.setCell ⟨xb, 0, none⟩ v1).setCell ⟨xb, 1, none⟩ v2) cb ao n c a vl k (.pointer (some ⟨xb, 0, none⟩)) (.int .i64 code) := by
  have hk : Kept w3 ((w3.setCell ⟨xb, 0, none⟩ v1).setCell ⟨xb, 1, none⟩ v2) (fun b => b = xb) := ((Kept.refl w3 (fun b => b = xb)).set (a := ⟨xb, 0, none⟩) rfl _).set (a := ⟨xb, 1, none⟩) rfl _
  exact ⟨h.box hl hx hb hk, xb, v1, v2, code, rfl, rfl, blk_set (blk_set hx 0 _) 1 _, hb, fun e => (ha e).box hx hk⟩
theorem cutA_last {w w3 : World} {cb n c a k : Nat} {ao : Option Addr} {vl v1 v2 : Value} {code : Int} (h : ASit w w3 cb ao n c a vl k) (ha : code = 0 → ArnIs w3 (w.heap.size + 2) 20 v1 v2) :
    CutA w (w3.alloc (.cells #[v1, v2] 26)) cb ao n c a vl k (.pointer (some ⟨w3.heap.size, 0, none⟩)) (.int .i64 code) := by
  obtain ⟨s, t, h1, h2⟩ := h.ex
  have := blk_lt h1
  exact ⟨h.below (push (Below.refl _ _) _), w3.heap.size, v1, v2, code, rfl, rfl, heap_alloc_new w3 _, by omega, fun e => (ha e).below (push (Below.refl _ _) _)⟩

theorem step_append_loose {P : Program} {w : World} {ops : Array Oper} {o : Oper} {a : Act} {K : Act → World → Prop} {Q : Exit → Act → World → Prop} {E : Prop} (hgd : o.guard = none) (s x : Operand) (t : TypeId)
    (hop : o.op = .call { callee := .builtin .append, args := #[s, x], argTypes := #[t, t] })
    (base : Nat) (e : TypeId) (i : TypeInfo) (z : Value) (size bytes : Nat) (h1 : P.underlying t = some (.slice e)) (h2 : P.info? e = some i) (h3 : i.zero = some z) (h4 : i.size = size) (h5 : i.bytes = bytes) (h6 : z.cells.size = size) (h7 : 0 < size)
    (ao : Option Addr) (n cap : Nat) (xs : List Value) (hxs : xs.length = n * size) (hs : a.eval s = .slice ao n cap) (h : LooseRow w base e size (.slice ao n cap) n xs)
    (ad : Addr) (m c : Nat) (news : List Value) (hx : a.eval x = .slice (some ad) m c) (hn : news.length = m * size) (hc : ∀ j u, news[j]? = some u → w.cell? (ad.add j) = some u) (h1c : ∀ u ∈ news, u.oneCell' = true)
    (hm : 0 < m) (b1 : n + m ≤ maxLen) (b2 : (n + m) * bytes ≤ 140737488355328) (hbase : base ≤ w.heap.size)
    (hK : ∀ g cap' w' row, w'.ownsRow base e size (.slice (some ⟨g, 0, none⟩) (n + m) cap') (n + m) (xs ++ news) → w.grownBy w' row → (∀ b, row = some b → w.ownsRow base e size (.slice ao n cap) n xs ∧ (Value.slice ao n cap).ownBlock = some b) → K (a.put o.dst (.slice (some ⟨g, 0, none⟩) (n + m) cap')) w') :
    if Region.wanted o (yielded ops a.tmps) = true then Oper.wp P o a w K Q else E := by
  rcases h with ⟨h0, ao', hv⟩ | ho
  · subst h0
    simp only [Value.slice.injEq, true_and] at hv
    obtain ⟨_, rfl⟩ := hv
    obtain rfl : xs = [] := List.eq_nil_of_length_eq_zero (by simpa using hxs)
    refine step_append_grows hgd s x t hop e i z size bytes h1 h2 h3 h4 h5 h6 h7 ao 0 0 [] hs (fun _ => ⟨rfl, rfl⟩) (by simp) (by simp) ad m c news hx hn hc h1c (by omega) b1 b2 ?_
    intro v' w' ho hgr
    obtain ⟨g, cap', rfl, _, _⟩ := ho.form (by omega)
    exact hK g cap' w' none (own_base ho hbase) hgr (by simp)
  · exact step_append_lies w hgd s x t hop base e i z size bytes h1 h2 h3 h4 h5 h6 h7 _ n xs hs ho ad m c news hx hn hc h1c hm b1 b2 hbase _ rfl (fun g cap' w' ho' hgr _ _ => hK g cap' w' _ ho' hgr (fun b hb => ⟨ho, hb⟩))

end Go.Proofs.Ytclcjnbjpelcjaa
