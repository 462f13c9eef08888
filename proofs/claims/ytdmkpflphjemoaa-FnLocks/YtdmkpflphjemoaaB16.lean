/-
  OWN TEXT: Kit3, KitSp.
-/
import Derived.Deep.RegionLawGrows
import Derived.Deep.RegionHeld3
import Derived.Test.YtdmkpflphjemoaaB03
import Derived.Test.YtdmkpflphjemoaaB15
namespace Go.Proofs.Ytdmkpflphjemoaa
open Go.RowKit

/-- A slice of n elements that is empty, or an owned row. -/
def SpecRow (w : World) (base e size : Nat) (v : Value) (n : Nat) (xs : List Value) : Prop := (n = 0 ∧ ∃ ao, v = .slice ao 0 0) ∨ (0 < n ∧ w.ownsRow base e size v n xs)
theorem SpecRow.kept {w w' : World} {base e size n : Nat} {v : Value} {xs : List Value} (h : SpecRow w base e size v n xs) (hg : w.grownBy w' none) : SpecRow w' base e size v n xs := by
  rcases h with h | ⟨h1, h2⟩
  · exact .inl h
  · exact .inr ⟨h1, h2.kept hg (Classical.em _)⟩
theorem SpecRow.alloc {w : World} {base e size n : Nat} {v : Value} {xs : List Value} (h : SpecRow w base e size v n xs) (o : Obj) : SpecRow (w.alloc o) base e size v n xs := h.kept (World.grownBy_alloc w o none)
theorem SpecRow.below {w w' : World} {base e size n : Nat} {v : Value} {xs : List Value} (h : SpecRow w base e size v n xs) (hb : Below w.heap.size w w') : SpecRow w' base e size v n xs := by
  rcases h with h | ⟨h1, h2⟩
  · exact .inl h
  · exact .inr ⟨h1, own_below hb h2⟩
theorem SpecRow.set {w : World} {base e size n : Nat} {v : Value} {xs : List Value} (h : SpecRow w base e size v n xs) {a : Addr} (ha : a.block < base) (u : Value) : SpecRow (w.setCell a u) base e size v n xs := by
  rcases h with h | ⟨h1, h2⟩
  · exact .inl h
  · exact .inr ⟨h1, ownsRow_setCell_below h2 ha u⟩
theorem SpecRow.base {w : World} {base base' e size n : Nat} {v : Value} {xs : List Value} (h : SpecRow w base e size v n xs) (hb : base' ≤ base) : SpecRow w base' e size v n xs := by
  rcases h with h | ⟨h1, h2⟩
  · exact .inl h
  · exact .inr ⟨h1, own_base h2 hb⟩
theorem SpecRow.slots {w : World} {base e n c : Nat} {ao : Option Addr} {A : Nat → Int} {U : Nat → Bool} {V : Nat → Int} (h : SpecRow w base e 3 (.slice ao n c) n (slotList A U V n)) : SlotsAt w ao n A U V := by
  rcases h with ⟨h, _⟩ | ⟨_, h2⟩
  · intro k hk; omega
  · exact own_slots h2
theorem SpecRow.ints {w : World} {base e n c : Nat} {ao : Option Addr} {F : Nat → Int} (h : SpecRow w base e 1 (.slice ao n c) n (intList F n)) : IntsAt w ao n F := by
  rcases h with ⟨h, _⟩ | ⟨_, h2⟩
  · intro k hk; omega
  · exact own_ints h2

theorem grown_below {w w' : World} (h : w.grownBy w' none) : Below w.heap.size w w' := (Below.refl _ _).grown h (Nat.le_refl _) (by simp)

/-- append(T{}, src...), one step. -/
theorem step_append_empty {P : Program} {ops : Array Oper} {o : Oper} {a : Act} {w : World} {K : Act → World → Prop} {Q : Exit → Act → World → Prop} {E : Prop}
    (hg : o.guard = none) (s x : Operand) (t : TypeId) (hop : o.op = Op.call { callee := Callee.builtin Builtin.append, args := #[s, x], argTypes := #[t, t] })
    (e : TypeId) (i : TypeInfo) (z : Value) (size bytes : Nat) (h1 : P.underlying t = some (.slice e)) (h2 : P.info? e = some i) (h3 : i.zero = some z) (h4 : i.size = size) (h5 : i.bytes = bytes) (h6 : z.cells.size = size) (h7 : 0 < size)
    (b : Nat) (hs : a.eval s = .slice (some ⟨b, 0, none⟩) 0 0)
    (bo : Option Addr) (m c : Nat) (news : List Value) (hx : a.eval x = .slice bo m c) (hnil : bo = none → m = 0 ∧ c = 0) (hn : news.length = m * size) (hc : ∀ ad, bo = some ad → ∀ j u, news[j]? = some u → w.cell? (ad.add j) = some u) (h1c : ∀ u ∈ news, u.oneCell' = true)
    (b1 : m ≤ maxLen) (b2 : m * bytes ≤ 140737488355328)
    (hK : ∀ ao' c' w', w.grownBy w' none → m ≤ c' → c' ≤ maxLen → SpecRow w' w.heap.size e size (.slice ao' m c') m news → K (a.put o.dst (.slice ao' m c')) w') :
    if Region.wanted o (yielded ops a.tmps) = true then Oper.wp P o a w K Q else E := by
  by_cases hm : m = 0
  · subst hm
    have hnews : news = [] := List.eq_nil_of_length_eq_zero (by simpa using hn)
    subst hnews
    have hk := hK (some ⟨b, 0, none⟩) 0 w (World.grownBy.refl w none) (Nat.le_refl _) (Nat.zero_le _) (.inl ⟨rfl, _, rfl⟩)
    have hw : Region.wanted o (yielded ops a.tmps) = true := by simp [Region.wanted, hg]
    cases bo with
    | none =>
      obtain ⟨_, rfl⟩ := hnil rfl
      rw [if_pos hw]
      unfold Oper.wp
      have hrun : (Builtin.append_ #[t, t] o.type #[.slice (some ⟨b, 0, none⟩) 0 0, .slice none 0 0]).run P w = .ok (.slice (some ⟨b, 0, none⟩) 0 0) w := by
        simp [Builtin.append_, run_underlying h1, sizeOf, typeInfo, h2, Builtin.lenOf, Builtin.firstCells, storeCells]
      simp [execOp, hop, resolve, invoke, builtin, hs, hx, hrun, Result.andThen]
      exact hk
    | some ad => exact step_append_room hg s x t hop e i size h1 h2 h4 b 0 0 0 hs ad 0 c [] hx (by simp) (by simp) (by simp) (Nat.le_refl _) (by simp) (by simpa [World.setCells] using hk)
  · cases bo with
    | none => exact absurd (hnil rfl).1 hm
    | some ad =>
      refine step_append_grows hg s x t hop e i z size bytes h1 h2 h3 h4 h5 h6 h7 (some ⟨b, 0, none⟩) 0 0 [] hs (by intro h; cases h) (by simp) (by simp) ad m c news hx hn (hc ad rfl) h1c (by omega) (by omega) (by rw [Nat.zero_add]; exact b2) ?_
      intro v' w' hown hgrow
      rw [Nat.zero_add, List.nil_append] at hown
      obtain ⟨ao', c', rfl, hc1, hc2, _⟩ := own_form hown
      exact hK ao' c' w' hgrow hc1 hc2 (.inr ⟨by omega, hown⟩)

end Go.Proofs.Ytdmkpflphjemoaa

namespace Go.Proofs.Ytdmkpflphjemoaa
open Go.RowKit

/-- A line in a row of its own. -/
def LineV (w : World) (base : Nat) (v : Value) (l : Line) : Prop := w.ownsRow base 57 2 v l.n (askList l)
theorem LineV.base {w : World} {base base' : Nat} {v : Value} {l : Line} (h : LineV w base v l) (hb : base' ≤ base) : LineV w base' v l := own_base h hb
theorem LineV.kept {w w' : World} {base : Nat} {v : Value} {l : Line} {S : Nat → Prop} (h : LineV w base v l) (hk : Kept w w' S) (hS : ∀ g, w.ownsRow base 57 2 v l.n (askList l) → v.ownBlock = some g → ¬ S g) : LineV w' base v l := hk.own h (fun g hg => hS g h hg)
theorem LineV.below {w w' : World} {base : Nat} {v : Value} {l : Line} (h : LineV w base v l) (hb : Below w.heap.size w w') : LineV w' base v l := h.kept (Kept.of_below (S := fun _ => False) hb) (fun _ _ _ h => h)
theorem LineV.of_own {w : World} {base n : Nat} {v : Value} {l : Line} (hn : l.n = n) (h : w.ownsRow base 57 2 v n (askList l)) : LineV w base v l := by
  subst hn
  exact h
theorem LineV.at_ {w : World} {base : Nat} {v : Value} {l : Line} (h : LineV w base v l) : ∃ ao c, v = .slice ao l.n c ∧ SliceOk ao l.n c ∧ LineAt w ao l := by
  obtain ⟨ao, c, e, h1, h2, h3⟩ := own_form h
  refine ⟨ao, c, e, ⟨h1, by unfold maxLen at h2; omega, h3⟩, ?_⟩
  have h' : w.ownsRow base 57 2 v l.n (askList l) := h
  rw [e] at h'
  exact line_of_own h'
theorem LineV.congr {w : World} {base : Nat} {v : Value} {l l' : Line} (h : LineV w base v l) (hn : l.n = l'.n) (ha : askList l = askList l') : LineV w base v l' := by
  unfold LineV at h ⊢
  rwa [hn, ha] at h
theorem LineV.asks {w : World} {base : Nat} {v : Value} {l : List (Int × Bool)} (h : LineV w base v (lineOf l)) : AsksIs w base v l := by
  unfold LineV at h
  rw [askList_lineOf] at h
  exact h

end Go.Proofs.Ytdmkpflphjemoaa
