/-
  OWN TEXT: the drawing of an arena, its end in words: something is appended to one of its rows, and the arena is handed back.
-/
import Derived.Test.YtclcjnbjpelcjaaDrawB
namespace Go.Proofs.Ytclcjnbjpelcjaa
open Go.RowKit

theorem ArnIs.more {w : World} {base z z' : Nat} {s t : Value} (h : ArnIs w base z s t) (hz : z ≤ z') : ArnIs w base z' s t := by
  obtain ⟨ao, bo, n, m, d1, d2, A, U, V, F, rfl, rfl, g1, g2, g3, g4⟩ := h
  exact ⟨ao, bo, n, m, d1, d2, A, U, V, F, rfl, rfl, by omega, by omega, g3, g4⟩
/-- The drawing of an arena ahead of its end. -/
structure AEnd (w u : World) (cb : Nat) (ao : Option Addr) (n c a : Nat) (s t : Value) : Prop where
  res : ∃ z1 z2, u.heap[w.heap.size]? = some (.cells #[z1, z2] 26 (0, 0))
  box : u.heap[w.heap.size + 1]? = some (.cells #[s, t] 26 (0, 0))
  cur : CurIs u cb ao n c a
  kept : Kept w u (fun b => b = cb)
/-- The rows of an arena, written out. -/
structure ARows (u : World) (base : Nat) (sa ta : Option Addr) (sn tm sc tc : Nat) (A : Nat → Int) (U : Nat → Bool) (V F : Nat → Int) : Prop where
  slots : LooseRow u base 106 3 (.slice sa sn sc) sn (slotList A U V sn)
  frees : LooseRow u base 3 1 (.slice ta tm tc) tm (intList F tm)
theorem ARows.arn {u : World} {base z sn tm sc tc : Nat} {sa ta : Option Addr} {A : Nat → Int} {U : Nat → Bool} {V F : Nat → Int} (h : ARows u base sa ta sn tm sc tc A U V F) (h1 : sn ≤ z) (h2 : tm ≤ z) : ArnIs u base z (.slice sa sn sc) (.slice ta tm tc) :=
  ⟨sa, ta, sn, tm, sc, tc, A, U, V, F, rfl, rfl, h1, h2, h.slots, h.frees⟩
theorem ARows.below {u u' : World} {base sn tm sc tc : Nat} {sa ta : Option Addr} {A : Nat → Int} {U : Nat → Bool} {V F : Nat → Int} (h : ARows u base sa ta sn tm sc tc A U V F) (hb : Below u.heap.size u u') : ARows u' base sa ta sn tm sc tc A U V F := ⟨h.slots.below hb, h.frees.below hb⟩
theorem ARows.kept {u u' : World} {base sn tm sc tc : Nat} {sa ta : Option Addr} {A : Nat → Int} {U : Nat → Bool} {V F : Nat → Int} {S : Nat → Prop} (h : ARows u base sa ta sn tm sc tc A U V F) (hk : Kept u u' S) (hS : ∀ b, S b → b < base) : ARows u' base sa ta sn tm sc tc A U V F := by
  obtain ⟨h1, h2⟩ := h
  constructor
  · rcases h1 with h | h
    · exact .inl h
    · exact .inr (hk.own h (fun b hb s => by have := (h.lt b hb).1; have := hS b s; omega))
  · rcases h2 with h | h
    · exact .inl h
    · exact .inr (hk.own h (fun b hb s => by have := (h.lt b hb).1; have := hS b s; omega))
theorem AEnd.of {w wr : World} {cb n c a k : Nat} {ao : Option Addr} {vl : Value} (h : ASit w wr cb ao n c a vl k) : ∃ sa ta sn tm sc tc A U V F, AEnd w wr cb ao n c a (.slice sa sn sc) (.slice ta tm tc) ∧ ARows wr (w.heap.size + 2) sa ta sn tm sc tc A U V F ∧ sn ≤ 20 ∧ tm ≤ 20 := by
  obtain ⟨⟨s, t, h1, ao', bo', n', m', d1, d2, A, U, V, F, rfl, rfl, g1, g2, g3, g4⟩, h3, h4, _, h6⟩ := h
  exact ⟨ao', bo', n', m', d1, d2, A, U, V, F, ⟨⟨_, _, h3⟩, h1, h4, h6⟩, ⟨g3, g4⟩, g1, g2⟩
theorem AEnd.below {w u u' : World} {cb n c a : Nat} {ao : Option Addr} {s t : Value} (h : AEnd w u cb ao n c a s t) (hb : Below u.heap.size u u') : AEnd w u' cb ao n c a s t := by
  obtain ⟨⟨z1, z2, h1⟩, h2, h3, h4⟩ := h
  exact ⟨⟨z1, z2, blk_below h1 hb⟩, blk_below h2 hb, h3.below hb, h4.trans (Kept.of_below hb)⟩
/-- The cursor goes on. -/
theorem AEnd.on {w u u' : World} {cb n c a a' : Nat} {ao : Option Addr} {s t : Value} (h : AEnd w u cb ao n c a s t) (hl : Low w cb ao n) (hc : CurIs u' cb ao n c a') (hk : Kept u u' (fun b => b = cb)) : AEnd w u' cb ao n c a' s t := by
  have := hl.cb
  obtain ⟨⟨z1, z2, h1⟩, h2, h3, h4⟩ := h
  exact ⟨⟨z1, z2, hk.blk h1 (by omega)⟩, hk.blk h2 (by omega), hc, h4.trans hk⟩
/-- A row of the arena has grown. -/
theorem AEnd.grown {w u v : World} {cb n c a e size m : Nat} {ao : Option Addr} {s t x : Value} {xs : List Value} {row : Option Nat} (h : AEnd w u cb ao n c a s t) (hl : Low w cb ao n) (hg : u.grownBy v row) (hr : ∀ b, row = some b → u.ownsRow (w.heap.size + 2) e size x m xs ∧ x.ownBlock = some b) : AEnd w v cb ao n c a s t := by
  have hk : Kept u v (fun b => row = some b) := ⟨hg.os, hg.tape, hg.output, hg.size, fun i hi hn => hg.block i hi (fun e => hn e.symm)⟩
  obtain ⟨⟨z1, z2, h1⟩, h2, h3, h4⟩ := h
  have hlo : ∀ b, row = some b → w.heap.size + 2 ≤ b := fun b e => ((hr b e).1.lt b (hr b e).2).1
  refine ⟨⟨z1, z2, hk.blk h1 (fun e => by have := hlo _ e; omega)⟩, hk.blk h2 (fun e => by have := hlo _ e; omega), h3.apart hl hk (fun b e => by have := hlo b e; omega), ?_⟩
  exact ⟨hk.os.trans h4.os, hk.tape.trans h4.tape, hk.output.trans h4.output, Nat.le_trans h4.size hk.size, fun i hi hn => (hk.block i (Nat.lt_of_lt_of_le hi h4.size) (fun e => by have := hlo i e; omega)).trans (h4.block i hi hn)⟩
/-- A cell of the arena's box is written. -/
theorem AEnd.set0 {w u : World} {cb n c a : Nat} {ao : Option Addr} {s t : Value} (h : AEnd w u cb ao n c a s t) (hl : Low w cb ao n) (s' : Value) : AEnd w (u.setCell ⟨w.heap.size + 1, 0, none⟩ s') cb ao n c a s' t := by
  have hk : Kept u (u.setCell ⟨w.heap.size + 1, 0, none⟩ s') (fun b => b = w.heap.size + 1) := (Kept.refl u (fun b => b = w.heap.size + 1)).setS rfl s'
  obtain ⟨⟨z1, z2, h1⟩, h2, h3, h4⟩ := h
  exact ⟨⟨z1, z2, hk.blk h1 (by omega)⟩, blk_set h2 0 s', h3.apart hl hk (fun b e => by omega), h4.far (by omega) s'⟩
theorem AEnd.set1 {w u : World} {cb n c a : Nat} {ao : Option Addr} {s t : Value} (h : AEnd w u cb ao n c a s t) (hl : Low w cb ao n) (t' : Value) : AEnd w (u.setCell ⟨w.heap.size + 1, 1, none⟩ t') cb ao n c a s t' := by
  have hk : Kept u (u.setCell ⟨w.heap.size + 1, 1, none⟩ t') (fun b => b = w.heap.size + 1) := (Kept.refl u (fun b => b = w.heap.size + 1)).setS rfl t'
  obtain ⟨⟨z1, z2, h1⟩, h2, h3, h4⟩ := h
  exact ⟨⟨z1, z2, hk.blk h1 (by omega)⟩, blk_set h2 1 t', h3.apart hl hk (fun b e => by omega), h4.far (by omega) t'⟩
/-- The arena is handed back. -/
theorem AEnd.done {w u : World} {cb n c a : Nat} {ao : Option Addr} {s t : Value} (h : AEnd w u cb ao n c a s t) (hl : Low w cb ao n) (ha : ArnIs u (w.heap.size + 2) 21 s t) :
    ((u.setCell ⟨w.heap.size, 0, none⟩ s).setCell ⟨w.heap.size, 1, none⟩ t).heap[w.heap.size]? = some (.cells #[s, t] 26 (0, 0)) ∧ ArnIs ((u.setCell ⟨w.heap.size, 0, none⟩ s).setCell ⟨w.heap.size, 1, none⟩ t) (w.heap.size + 2) 21 s t ∧ CurIs ((u.setCell ⟨w.heap.size, 0, none⟩ s).setCell ⟨w.heap.size, 1, none⟩ t) cb ao n c a ∧ Kept w ((u.setCell ⟨w.heap.size, 0, none⟩ s).setCell ⟨w.heap.size, 1, none⟩ t) (fun b => b = cb) := by
  obtain ⟨⟨z1, z2, h1⟩, h2, h3, h4⟩ := h
  exact ⟨two_set h1 s t, ha.boxT h1 (by decide) (by decide) (kept_two _ _ _ _), h3.apart hl (kept_two u w.heap.size s t) (fun b e => by omega), (h4.far (Nat.le_refl _) s).far (Nat.le_refl _) t⟩

theorem LooseRow.grow {u v : World} {base e size n b2 e2 s2 m : Nat} {y x : Value} {xs ys : List Value} {row : Option Nat} (h : LooseRow u base e size y n xs) (hg : u.grownBy v row) (hr : ∀ b, row = some b → u.ownsRow b2 e2 s2 x m ys ∧ x.ownBlock = some b) (hne : e ≠ e2) : LooseRow v base e size y n xs := by
  have hk : Kept u v (fun b => row = some b) := ⟨hg.os, hg.tape, hg.output, hg.size, fun i hi hn => hg.block i hi (fun e => hn e.symm)⟩
  rcases h with h | h
  · exact .inl h
  · exact .inr (hk.own h (fun g hg' e' => own_apart h (hr g e').1 hne g hg' (hr g e').2))
/-- A free slot more. -/
theorem arn_free {u v v' : World} {base sn tm sc tc xb cap : Nat} {sa ta ga : Option Addr} {A : Nat → Int} {U : Nat → Bool} {V F : Nat → Int} {x : Int} {cs : Array Value} {row : Option Nat} (hR : ARows u base sa ta sn tm sc tc A U V F) (hg : u.grownBy v row) (hr : ∀ b, row = some b → u.ownsRow base 3 1 (.slice ta tm tc) tm (intList F tm) ∧ (Value.slice ta tm tc).ownBlock = some b)
    (ho : v.ownsRow base 3 1 (.slice ga (tm + 1) cap) (tm + 1) (intList F tm ++ [.int .i64 x])) (hb : v.heap[xb]? = some (.cells cs 26 (0, 0))) (hk : Kept v v' (fun b => b = xb)) (h1 : sn ≤ 21) (h2 : tm + 1 ≤ 21) : ArnIs v' base 21 (.slice sa sn sc) (.slice ga (tm + 1) cap) := by
  refine ⟨sa, ga, sn, tm + 1, sc, cap, A, U, V, put F tm x, rfl, rfl, h1, h2, (hR.slots.grow hg hr (by decide)).box hb (by decide) hk, LooseRow.box (.inr ?_) hb (by decide) hk⟩
  rw [intList_put]; exact ho
/-- A slot more. -/
theorem arn_slot {u v v' : World} {base sn tm sc tc xb cap : Nat} {sa ta ga : Option Addr} {A : Nat → Int} {U : Nat → Bool} {V F : Nat → Int} {x y : Int} {q : Bool} {cs : Array Value} {row : Option Nat} (hR : ARows u base sa ta sn tm sc tc A U V F) (hg : u.grownBy v row) (hr : ∀ b, row = some b → u.ownsRow base 106 3 (.slice sa sn sc) sn (slotList A U V sn) ∧ (Value.slice sa sn sc).ownBlock = some b)
    (ho : v.ownsRow base 106 3 (.slice ga (sn + 1) cap) (sn + 1) (slotList A U V sn ++ [.int .i64 x, .bool q, .int .i64 y])) (hb : v.heap[xb]? = some (.cells cs 26 (0, 0))) (hk : Kept v v' (fun b => b = xb)) (h1 : sn + 1 ≤ 21) (h2 : tm ≤ 21) : ArnIs v' base 21 (.slice ga (sn + 1) cap) (.slice ta tm tc) := by
  refine ⟨ga, ta, sn + 1, tm, cap, tc, put A sn x, put U sn q, put V sn y, F, rfl, rfl, h1, h2, LooseRow.box (.inr ?_) hb (by decide) hk, (hR.frees.grow hg hr (by decide)).box hb (by decide) hk⟩
  rw [slotList_put]; exact ho

set_option maxHeartbeats 800000 in
theorem amongH (cb : Nat) (ao : Option Addr) (n c a : Nat) (m : Nat) (l : List Int) (w : World) (hl : l.length = m) (ha : a ≤ 900000000) (hm : 1 ≤ m) (hm2 : m ≤ 100000) (h : CurIs w cb ao n c a) (b : Nat) (hb : w.heap[b]? = some (.cells (l.map (fun x => Value.int .i64 x)).toArray 3 (0, 0))) (hne : b ≠ cb) :
    Calls Try.prog 57 #[.pointer (some ⟨cb, 0, none⟩), .slice (some ⟨b, 0, none⟩) m m] w fun e w' => (∃ x : Int, e = .returned (.int .i64 x)) ∧ CurIs w' cb ao n c (a + 2) ∧ Kept w w' (fun b => b = cb) := by
  refine among_any cb ao n c a b 0 m m (fun k => l.getD k 0) w ha hm hm2 h hne (fun k hk => ?_)
  rw [Nat.zero_add]
  refine blk_cell hb k _ ?_
  simp only [List.getElem?_toArray, List.getElem?_map, List.getD_eq_getElem?_getD]
  rw [List.getElem?_eq_getElem (by omega)]
  rfl

end Go.Proofs.Ytclcjnbjpelcjaa
