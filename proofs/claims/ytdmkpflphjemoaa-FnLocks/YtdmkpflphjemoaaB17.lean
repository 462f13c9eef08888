/-
  OWN TEXT: KitG, InsE.
-/
import Derived.BigQuiet
import Derived.Test.YtdmkpflphjemoaaB00
import Derived.Test.YtdmkpflphjemoaaB14
namespace Go.Proofs.Ytdmkpflphjemoaa
open Go.RowKit

/-- A world that has grown out of W: nothing that was there is written. -/
structure Grown (W : World) where
  val : World
  bel : Below W.heap.size W val
instance (W : World) : Nonempty (Grown W) := ⟨⟨W, Below.refl _ _⟩⟩

theorem wp_region_grow {P : Program} {id : Nat} {Q : Exit → Act → World → Prop} {a : Act} {w : World} {l : List Oper} (hm : P.follows .mixedOrders = true) (hB : Region.lexB .any l.toArray = true)
    (h : wpQuiet P l.toArray (fun w' => ∃ g : Grown w, w' = g.val) (fun a' => ∀ w', (∃ g : Grown w, w' = g.val) → Q .normal a' w') l a) : (Code.region id l.toArray true).wp P Q a w :=
  wp_region_quiet (C := fun w' => ∃ g : Grown w, w' = g.val) hm hB ⟨⟨_, (Below.refl _ w).drew⟩, rfl⟩ (by simpa using h)

theorem grown_call {P : Program} {f : FuncId} {args : Array Value} {W : World} {g : Grown W} {v : Value}
    (h : Calls P f args g.val fun e w' => e = .returned v ∧ Below g.val.heap.size g.val w') : Calls P f args g.val fun e w'' => e = .returned v ∧ ∃ g' : Grown W, w'' = g'.val :=
  h.mono fun _ w' ⟨he, hb⟩ => ⟨he, ⟨w', after g.bel hb⟩, rfl⟩

end Go.Proofs.Ytdmkpflphjemoaa

namespace Go.Proofs.Ytdmkpflphjemoaa
open Go.RowKit

set_option maxHeartbeats 1600000 in
set_option maxRecDepth 100000 in
theorem insertA_end (ao : Option Addr) (n c base vb : Nat) (x : Int) (s : Bool) (xs : List Value) (w : World) (hn : n ≤ 1048576) (ho : w.ownsRow base 57 2 (.slice ao n c) n xs) (hv : w.heap[vb]? = some (.cells #[.int .i64 x, .bool s] 57 (0, 0))) (hb : base ≤ w.heap.size) :
    Calls Try.prog 63 #[.slice ao n c, .int .i64 n, .slice (some ⟨vb, 0, none⟩) 1 1] w fun e w' => ∃ v, e = .returned v ∧ w'.ownsRow base 57 2 v (n + 1) (xs ++ [.int .i64 x, .bool s]) ∧ w.grownBy w' (Value.slice ao n c).ownBlock ∧ (∀ g, v.ownBlock = some g → (Value.slice ao n c).ownBlock = some g ∨ w.heap.size ≤ g) := by
  obtain ⟨j0, ji, jz0, jz1, jz2⟩ := info_parts Try.infoAsked
  have HO : Hid (w.ownsRow base 57 2 (.slice ao n c) n xs) := ho
  have HV : Hid (w.heap[vb]? = some (.cells #[.int .i64 x, .bool s] 57 (0, 0))) := hv
  obtain ⟨a', c', e', hc, hc2, hna⟩ := own_form ho
  simp only [Value.slice.injEq, true_and] at e'
  obtain ⟨rfl, rfl⟩ := e'
  have hc3 : c ≤ 9223372036854775807 := by unfold maxLen at hc2; omega
  clear hc2 ho hv
  have i1 : (n : Int) ≤ (c : Int) := by omega
  have i2 : (0 : Int) ≤ (n : Int) := by omega
  cases ao with
  | none =>
    obtain ⟨rfl, rfl⟩ := hna rfl
    go_enter Try.func63, Try.ntmps63
    go_wp2_with (first | (at_builtin; refine wpList_append_lies _ (by rfl) (.tmp 23) (.tmp 24) 58 (by rfl) base 57 j0 (.agg #[.int .i64 0, .bool false]) 2 16 Try.underlying58 ji jz0 jz1 jz2 rfl (by decide) _ 0 xs (by rfl) HO.out ⟨vb, 0, none⟩ 1 1 [.int .i64 x, .bool s] (by rfl) (by rfl) (World.news_of_block HV.out) (by intro u hu; simp at hu; rcases hu with rfl | rfl <;> rfl) (by decide) (by unfold maxLen; omega) (by omega) hb w.heap.size rfl ?_; intro g' cap' w3 ho3 hg3 hat3 hlt3))
    (try rw [Exit.noGoto_ret])
    go_ret
    exact ⟨_, rfl, ho3, hg3, fun g e => by have e' : some g' = some g := e; cases e'; rcases hat3 with h | h; exact .inl h; exact .inr (by omega)⟩
  | some ad =>
    go_enter Try.func63, Try.ntmps63
    go_wp2_with (first | (at_builtin; refine wpList_append_lies _ (by rfl) (.tmp 23) (.tmp 24) 58 (by rfl) base 57 j0 (.agg #[.int .i64 0, .bool false]) 2 16 Try.underlying58 ji jz0 jz1 jz2 rfl (by decide) _ n xs (by rfl) HO.out ⟨vb, 0, none⟩ 1 1 [.int .i64 x, .bool s] (by rfl) (by rfl) (World.news_of_block HV.out) (by intro u hu; simp at hu; rcases hu with rfl | rfl <;> rfl) (by decide) (by unfold maxLen; omega) (by omega) hb w.heap.size rfl ?_; intro g' cap' w3 ho3 hg3 hat3 hlt3))
    all_goals
      (try rw [Exit.noGoto_ret])
      go_ret
      exact ⟨_, rfl, ho3, hg3, fun g e => by have e' : some g' = some g := e; cases e'; rcases hat3 with h | h; exact .inl h; exact .inr (by omega)⟩

end Go.Proofs.Ytdmkpflphjemoaa
