/-
  OWN TEXT: small words for the walks of laws that mark what they were given and what was answered.
-/
import Derived.Test.YteniifnhbogbkafMarkSlots
import Derived.Test.YteniifnhbogbkafKit3
import Derived.Test.YteniifnhbogbkafImplSet
import Derived.Deep.DeepCutAuto
namespace Go.Proofs.Yteniifnhbogbkaf
open Go.RowKit

theorem undrew {w w' : World} (h : Below w.drew.heap.size w.drew w') : Below w.heap.size w w' := ⟨h.os, h.tape, h.output, h.size, h.block⟩
theorem setB {W w : World} {b i : Nat} (h : Below W.heap.size W w) (hb : W.heap.size ≤ b) (u : Value) : Below W.heap.size W (w.setCell ⟨b, i, none⟩ u) := h.setCell hb u
/-- Where v has elements its block lies below B. -/
def RowLt (v : Value) (n B : Nat) : Prop := 0 < n → ∀ b, v.ownBlock = some b → b < B
theorem SpecRow.lt {w : World} {base e size n : Nat} {v : Value} {xs : List Value} (h : SpecRow w base e size v n xs) : RowLt v n w.heap.size := by
  intro hn b hb
  rcases h with ⟨h0, _⟩ | ⟨_, h2⟩
  · omega
  · exact (h2.lt b hb).2
theorem SpecRow.drew {w : World} {base e size n : Nat} {v : Value} {xs : List Value} (h : SpecRow w base e size v n xs) : SpecRow w.drew base e size v n xs := h
theorem SpecRow.stays {w w' : World} {S : Nat → Prop} {base e size n B : Nat} {v : Value} {xs : List Value} (h : SpecRow w base e size v n xs) (hk : Kept w w' S) (hl : RowLt v n B) (hs : ∀ b, S b → B ≤ b) : SpecRow w' base e size v n xs := by
  rcases h with h0 | ⟨h1, h2⟩
  · exact .inl h0
  · exact .inr ⟨h1, hk.own h2 (fun b hb s => by have := hl h1 b hb; have := hs b s; omega)⟩
theorem own_of_row1 {w : World} {g e m base : Nat} {f : Nat → Value} (h : w.rowIs g e m f) (hb : base ≤ g) (hm : m ≤ maxLen) : w.ownsRow base e 1 (.slice (some ⟨g, 0, none⟩) m m) m ((List.range m).map f) := by
  have := own_of_row (size := 1) (n := m) (base := base) (by rw [Nat.mul_one]; exact h) hb hm
  rw [Nat.mul_one] at this
  exact this
theorem set_size {n m : Nat} {A : Nat → Int} {U : Nat → Bool} {V F : Nat → Int} {x a u : Int} {p : Prop} {o : Out} (hs : n + m ≤ 1048576) (h : Answers p (setOut n m A U V F x a u) o) : o.n + o.m ≤ 1048576 := by
  by_cases hp : p
  · rw [h.1 hp]; exact hs
  · rw [h.2 hp]; exact Nat.zero_le _

/-- An arena and a code have been answered: the arena lies in a box of the call's own. -/
def CutS (W0 : World) (p : Prop) (yes : Out) (s t : Value) (wc : World) : Prop :=
  ∃ B a b e f o, s = .pointer (some ⟨B, 0, none⟩) ∧ t = .int .i64 o.c ∧ W0.heap.size ≤ B ∧ wc.heap[B]? = some (.cells #[.slice a o.n e, .slice b o.m f] 33 (0, 0)) ∧
    OutRows wc W0.heap.size (.slice a o.n e) (.slice b o.m f) o ∧ Answers p yes o ∧ Below W0.heap.size W0 wc
theorem cutS_last {W0 w4 : World} {p : Prop} {yes o : Out} {a b : Option Addr} {e f base : Nat} (hb : Below W0.heap.size W0 w4) (hr : OutRows w4 base (.slice a o.n e) (.slice b o.m f) o) (h0 : W0.heap.size ≤ base) (ha : Answers p yes o) :
    CutS W0 p yes (.pointer (some ⟨w4.heap.size, 0, none⟩)) (.int .i64 o.c) (w4.alloc (.cells #[.slice a o.n e, .slice b o.m f] 33)) :=
  ⟨_, a, b, e, f, o, rfl, rfl, hb.size, heap_alloc_new w4 _, ⟨(hr.1.base h0).alloc _, (hr.2.base h0).alloc _⟩, ha, push hb _⟩
theorem cutS_first {W0 w4 : World} {p : Prop} {yes o : Out} {a b : Option Addr} {e f base B : Nat} {x1 x2 : Value} (hb : Below W0.heap.size W0 w4) (hr : OutRows w4 base (.slice a o.n e) (.slice b o.m f) o) (hB : w4.heap[B]? = some (.cells #[x1, x2] 33 (0, 0))) (h0 : W0.heap.size ≤ B) (h1 : B < base) (ha : Answers p yes o) :
    CutS W0 p yes (.pointer (some ⟨B, 0, none⟩)) (.int .i64 o.c) ((w4.setCell ⟨B, 0, none⟩ (.slice a o.n e)).setCell ⟨B, 1, none⟩ (.slice b o.m f)) :=
  ⟨_, a, b, e, f, o, rfl, rfl, h0, blk_set (blk_set hB 0 _) 1 _, ⟨SpecRow.base (SpecRow.set (SpecRow.set hr.1 h1 _) h1 _) (by omega), SpecRow.base (SpecRow.set (SpecRow.set hr.2 h1 _) h1 _) (by omega)⟩, ha, (hb.setCell h0 _).setCell h0 _⟩

/-- .. and is owned. -/
def CutI (W0 : World) (p : Prop) (yes : Out) (s t : Value) (wc : World) : Prop :=
  ∃ B a b e f o, s = .pointer (some ⟨B, 0, none⟩) ∧ t = .int .i64 o.c ∧ W0.heap.size ≤ B ∧ wc.heap[B]? = some (.cells #[.slice a o.n e, .slice b o.m f] 33 (0, 0)) ∧
    OutOwned wc W0.heap.size (.slice a o.n e) (.slice b o.m f) o ∧ Answers p yes o ∧ Below W0.heap.size W0 wc
theorem cutI_last {W0 w4 : World} {p : Prop} {yes o : Out} {a b : Option Addr} {e f base : Nat} (hb : Below W0.heap.size W0 w4) (hr : OutOwned w4 base (.slice a o.n e) (.slice b o.m f) o) (h0 : W0.heap.size ≤ base) (ha : Answers p yes o) :
    CutI W0 p yes (.pointer (some ⟨w4.heap.size, 0, none⟩)) (.int .i64 o.c) (w4.alloc (.cells #[.slice a o.n e, .slice b o.m f] 33)) :=
  ⟨_, a, b, e, f, o, rfl, rfl, hb.size, heap_alloc_new w4 _, ⟨(own_base hr.1 h0).alloc _, (own_base hr.2 h0).alloc _⟩, ha, push hb _⟩
theorem cutI_first {W0 w4 : World} {p : Prop} {yes o : Out} {a b : Option Addr} {e f base B : Nat} {x1 x2 : Value} (hb : Below W0.heap.size W0 w4) (hr : OutOwned w4 base (.slice a o.n e) (.slice b o.m f) o) (hB : w4.heap[B]? = some (.cells #[x1, x2] 33 (0, 0))) (h0 : W0.heap.size ≤ B) (h1 : B < base) (ha : Answers p yes o) :
    CutI W0 p yes (.pointer (some ⟨B, 0, none⟩)) (.int .i64 o.c) ((w4.setCell ⟨B, 0, none⟩ (.slice a o.n e)).setCell ⟨B, 1, none⟩ (.slice b o.m f)) :=
  ⟨_, a, b, e, f, o, rfl, rfl, h0, blk_set (blk_set hB 0 _) 1 _, ⟨own_base (own_set (own_set hr.1 h1 _) h1 _) (by omega), own_base (own_set (own_set hr.2 h1 _) h1 _) (by omega)⟩, ha, (hb.setCell h0 _).setCell h0 _⟩
/-- A box is no head of a row of another element type. -/
theorem box_head {w : World} {G t base e size n c : Nat} {cs : Array Value} {ao : Option Addr} {xs : List Value} (hG : w.heap[G]? = some (.cells cs t (0, 0))) (h : w.ownsRow base e size (.slice ao n c) n xs) (hne : e ≠ t) : ¬ headOf ao G := by
  rintro ⟨g, rfl, rfl⟩
  rcases h.2 with ⟨h0, _⟩ | ⟨g', cap, cur, h0, _, hg, _⟩
  · cases h0
  · simp only [Value.slice.injEq, Option.some.injEq, Addr.mk.injEq, and_true, true_and] at h0
    obtain ⟨rfl, rfl⟩ := h0
    rw [hG] at hg
    simp at hg
    exact hne hg.2.symm

end Go.Proofs.Yteniifnhbogbkaf
