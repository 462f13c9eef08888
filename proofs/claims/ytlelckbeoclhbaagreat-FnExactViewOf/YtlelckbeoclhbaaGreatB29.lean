/-
  OWN TEXT: Kit3, StepOwn, InfoStay, InfoRoom.
-/
import Derived.Deep.RegionLawGrows
import Derived.Deep.RegionHeld3
import Derived.Deep.AppendLies
import Derived.Test.YtlelckbeoclhbaaGreatRows
import Derived.Test.YtlelckbeoclhbaaGreatB00
import Derived.Test.YtlelckbeoclhbaaGreatB09
set_option maxHeartbeats 12800000
set_option maxRecDepth 100000
namespace Go.Proofs.YtlelckbeoclhbaaGreat
open Go.RowKit
def SpecRow (w : World) (base e size : Nat) (v : Value) (n : Nat) (xs : List Value) : Prop := (n = 0 ∧ ∃ ao, v = .slice ao 0 0) ∨ (0 < n ∧ w.ownsRow base e size v n xs)
theorem SpecRow.kept {w w' : World} {base e size n : Nat} {v : Value} {xs : List Value} (h : SpecRow w base e size v n xs) (hg : w.grownBy w' none) : SpecRow w' base e size v n xs := by
  rcases h with h | ⟨h1, h2⟩
  · exact .inl h
  · exact .inr ⟨h1, h2.kept hg (Classical.em _)⟩
theorem SpecRow.alloc {w : World} {base e size n : Nat} {v : Value} {xs : List Value} (h : SpecRow w base e size v n xs) (o : Obj) : SpecRow (w.alloc o) base e size v n xs := h.kept (World.grownBy_alloc w o none)
theorem SpecRow.below {w w' : World} {base e size n : Nat} {v : Value} {xs : List Value} (h : SpecRow w base e size v n xs) (hb : Below w.heap.size w w') : SpecRow w' base e size v n xs := by
  rcases h with h | ⟨h1, h2⟩
  · exact .inl h
  · exact .inr ⟨h1, own_below hb h2⟩
theorem SpecRow.set {w : World} {base e size n : Nat} {v : Value} {xs : List Value} (h : SpecRow w base e size v n xs) {a : Addr} (ha : a.block < base) (u : Value) : SpecRow (w.setCell a u) base e size v n xs := by
  rcases h with h | ⟨h1, h2⟩
  · exact .inl h
  · exact .inr ⟨h1, ownsRow_setCell_below h2 ha u⟩
theorem SpecRow.base {w : World} {base base' e size n : Nat} {v : Value} {xs : List Value} (h : SpecRow w base e size v n xs) (hb : base' ≤ base) : SpecRow w base' e size v n xs := by
  rcases h with h | ⟨h1, h2⟩
  · exact .inl h
  · exact .inr ⟨h1, own_base h2 hb⟩
theorem SpecRow.slots {w : World} {base e n c : Nat} {ao : Option Addr} {A : Nat → Int} {U : Nat → Bool} {V : Nat → Int} (h : SpecRow w base e 3 (.slice ao n c) n (slotList A U V n)) : SlotsAt w ao n A U V := by
  rcases h with ⟨h, _⟩ | ⟨_, h2⟩
  · intro k hk; omega
  · exact own_slots h2
theorem SpecRow.ints {w : World} {base e n c : Nat} {ao : Option Addr} {F : Nat → Int} (h : SpecRow w base e 1 (.slice ao n c) n (intList F n)) : IntsAt w ao n F := by
  rcases h with ⟨h, _⟩ | ⟨_, h2⟩
  · intro k hk; omega
  · exact own_ints h2
theorem grown_below {w w' : World} (h : w.grownBy w' none) : Below w.heap.size w w' := (Below.refl _ _).grown h (Nat.le_refl _) (by simp)
theorem step_append_empty {P : Program} {ops : Array Oper} {o : Oper} {a : Act} {w : World} {K : Act → World → Prop} {Q : Exit → Act → World → Prop} {E : Prop}
    (hg : o.guard = none) (s x : Operand) (t : TypeId) (hop : o.op = Op.call { callee := Callee.builtin Builtin.append, args := #[s, x], argTypes := #[t, t] })
    (e : TypeId) (i : TypeInfo) (z : Value) (size bytes : Nat) (h1 : P.underlying t = some (.slice e)) (h2 : P.info? e = some i) (h3 : i.zero = some z) (h4 : i.size = size) (h5 : i.bytes = bytes) (h6 : z.cells.size = size) (h7 : 0 < size)
    (b : Nat) (hs : a.eval s = .slice (some ⟨b, 0, none⟩) 0 0)
    (bo : Option Addr) (m c : Nat) (news : List Value) (hx : a.eval x = .slice bo m c) (hnil : bo = none → m = 0 ∧ c = 0) (hn : news.length = m * size) (hc : ∀ ad, bo = some ad → ∀ j u, news[j]? = some u → w.cell? (ad.add j) = some u) (h1c : ∀ u ∈ news, u.oneCell' = true)
    (b1 : m ≤ maxLen) (b2 : m * bytes ≤ 140737488355328)
    (hK : ∀ ao' c' w', w.grownBy w' none → m ≤ c' → c' ≤ maxLen → SpecRow w' w.heap.size e size (.slice ao' m c') m news → K (a.put o.dst (.slice ao' m c')) w') :
    if Region.wanted o (yielded ops a.tmps) = true then Oper.wp P o a w K Q else E := by
  by_cases hm : m = 0
  · subst hm
    have hnews : news = [] := List.eq_nil_of_length_eq_zero (by simpa using hn)
    subst hnews
    have hk := hK (some ⟨b, 0, none⟩) 0 w (World.grownBy.refl w none) (Nat.le_refl _) (Nat.zero_le _) (.inl ⟨rfl, _, rfl⟩)
    have hw : Region.wanted o (yielded ops a.tmps) = true := by simp [Region.wanted, hg]
    cases bo with
    | none =>
      obtain ⟨_, rfl⟩ := hnil rfl
      rw [if_pos hw]
      unfold Oper.wp
      have hrun : (Builtin.append_ #[t, t] o.type #[.slice (some ⟨b, 0, none⟩) 0 0, .slice none 0 0]).run P w = .ok (.slice (some ⟨b, 0, none⟩) 0 0) w := by
        simp [Builtin.append_, run_underlying h1, sizeOf, typeInfo, h2, Builtin.lenOf, Builtin.firstCells, storeCells]
      simp [execOp, hop, resolve, invoke, builtin, hs, hx, hrun, Result.andThen]
      exact hk
    | some ad => exact step_append_room hg s x t hop e i size h1 h2 h4 b 0 0 0 hs ad 0 c [] hx (by simp) (by simp) (by simp) (Nat.le_refl _) (by simp) (by simpa [World.setCells] using hk)
  · cases bo with
    | none => exact absurd (hnil rfl).1 hm
    | some ad =>
      refine step_append_grows hg s x t hop e i z size bytes h1 h2 h3 h4 h5 h6 h7 (some ⟨b, 0, none⟩) 0 0 [] hs (by intro h; cases h) (by simp) (by simp) ad m c news hx hn (hc ad rfl) h1c (by omega) (by omega) (by rw [Nat.zero_add]; exact b2) ?_
      intro v' w' hown hgrow
      rw [Nat.zero_add, List.nil_append] at hown
      obtain ⟨ao', c', rfl, hc1, hc2, _⟩ := own_form hown
      exact hK ao' c' w' hgrow hc1 hc2 (.inr ⟨by omega, hown⟩)
end Go.Proofs.YtlelckbeoclhbaaGreat

namespace Go.Proofs.YtlelckbeoclhbaaGreat
open Go.RowKit
theorem step_append_own0 {P : Program} {ops : Array Oper} {o : Oper} {a : Act} {w : World} {K : Act → World → Prop} {Q : Exit → Act → World → Prop} {E : Prop}
    (hg : o.guard = none) (s x : Operand) (t : TypeId) (hop : o.op = Op.call { callee := Callee.builtin Builtin.append, args := #[s, x], argTypes := #[t, t] })
    (e : TypeId) (i : TypeInfo) (z : Value) (size bytes : Nat) (h1 : P.underlying t = some (.slice e)) (h2 : P.info? e = some i) (h3 : i.zero = some z) (h4 : i.size = size) (h5 : i.bytes = bytes) (h6 : z.cells.size = size) (h7 : 0 < size)
    (base b : Nat) (hs : a.eval s = .slice (some ⟨b, 0, none⟩) 0 0) (hb : base ≤ b) (hbw : w.heap[b]? = some (.cells #[] e (0, 0)))
    (bo : Option Addr) (m c : Nat) (news : List Value) (hx : a.eval x = .slice bo m c) (hnil : bo = none → m = 0 ∧ c = 0) (hn : news.length = m * size) (hc : ∀ ad, bo = some ad → ∀ j u, news[j]? = some u → w.cell? (ad.add j) = some u) (h1c : ∀ u ∈ news, u.oneCell' = true)
    (b1 : m ≤ maxLen) (b2 : m * bytes ≤ 140737488355328)
    (hK : ∀ ao' c' w', w.grownBy w' none → w'.ownsRow base e size (.slice ao' m c') m news → (∀ g, (Value.slice ao' m c').ownBlock = some g → g = b ∨ w.heap.size ≤ g) → K (a.put o.dst (.slice ao' m c')) w') :
    if Region.wanted o (yielded ops a.tmps) = true then Oper.wp P o a w K Q else E := by
  have hbl : b < w.heap.size := blk_lt hbw
  by_cases hm : m = 0
  · subst hm
    have hnews : news = [] := List.eq_nil_of_length_eq_zero (by simpa using hn)
    subst hnews
    have hk := hK (some ⟨b, 0, none⟩) 0 w (World.grownBy.refl w none) ⟨by simp, .inr ⟨b, 0, #[], rfl, hb, hbw, Nat.le_refl _, Nat.zero_le _, by simp, by simp⟩⟩ (fun g hg => by simp only [Value.ownBlock, Option.some.injEq] at hg; exact .inl hg.symm)
    have hw : Region.wanted o (yielded ops a.tmps) = true := by simp [Region.wanted, hg]
    cases bo with
    | none =>
      obtain ⟨_, rfl⟩ := hnil rfl
      rw [if_pos hw]
      unfold Oper.wp
      have hrun : (Builtin.append_ #[t, t] o.type #[.slice (some ⟨b, 0, none⟩) 0 0, .slice none 0 0]).run P w = .ok (.slice (some ⟨b, 0, none⟩) 0 0) w := by
        simp [Builtin.append_, run_underlying h1, sizeOf, typeInfo, h2, Builtin.lenOf, Builtin.firstCells, storeCells]
      simp [execOp, hop, resolve, invoke, builtin, hs, hx, hrun, Result.andThen]
      exact hk
    | some ad => exact step_append_room hg s x t hop e i size h1 h2 h4 b 0 0 0 hs ad 0 c [] hx (by simp) (by simp) (by simp) (Nat.le_refl _) (by simp) (by simpa [World.setCells] using hk)
  · cases bo with
    | none => exact absurd (hnil rfl).1 hm
    | some ad =>
      refine step_append_grows hg s x t hop e i z size bytes h1 h2 h3 h4 h5 h6 h7 (some ⟨b, 0, none⟩) 0 0 [] hs (by intro h; cases h) (by simp) (by simp) ad m c news hx hn (hc ad rfl) h1c (by omega) (by omega) (by rw [Nat.zero_add]; exact b2) ?_
      intro v' w' hown hgrow
      rw [Nat.zero_add, List.nil_append] at hown
      obtain ⟨ao', c', rfl, hc1, hc2, _⟩ := own_form hown
      exact hK ao' c' w' hgrow (own_base hown (by omega)) (fun g hg => .inr (hown.lt g hg).1)
end Go.Proofs.YtlelckbeoclhbaaGreat

namespace Go.Proofs.YtlelckbeoclhbaaGreat
open Go.RowKit
theorem Tryz.infoStay : (Tryz.prog.info? 118).map (fun i => (i.zero, i.size, i.bytes)) = some (some (.agg #[.int .i64 0, .int .i64 0, .int .i64 0, .int .i64 0]), 4, 32) := by kernel_rfl
end Go.Proofs.YtlelckbeoclhbaaGreat

namespace Go.Proofs.YtlelckbeoclhbaaGreat
open Go.RowKit
theorem Tryz.infoRoom : (Tryz.prog.info? 120).map (fun i => (i.zero, i.size, i.bytes)) = some (some (.agg #[.int .i64 0, .int .i64 0, .int .i64 0, .bool false]), 4, 32) := by kernel_rfl
end Go.Proofs.YtlelckbeoclhbaaGreat
