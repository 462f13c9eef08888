/-
  OWN TEXT: PlainY, Kit3.
-/
import Derived.Deep.RegionLawGrows
import Derived.Deep.RegionHeld3
import Derived.Test.YthcjfoaejomfaaaB17
import Derived.Test.YthcjfoaejomfaaaB28
import Derived.Test.YthcjfoaejomfaaaB00
namespace Go.Proofs.Ythcjfoaejomfaaa
open Go.RowKit

theorem findIx_id {N : Nat} {S : Nat → Sail} (hr : Rising N S) {k : Nat} (hk : k < N) : findIx S (S k).id N = k :=
  findIx_is hk rfl (fun j hj => by have := hr j k hj hk; omega)
theorem getI_ids {S : Nat → Sail} {p : List Nat} {i : Nat} (hi : i < p.length) : getI (ids S p) i = (S (p[i]'hi)).id := by
  unfold getI ids
  simp [List.getElem?_eq_getElem hi]
/-- The ways that fit, told by the sailings' places. -/
def Steps (S : Nat → Sail) (p : List Nat) : Prop := ∀ i (hi : i < p.length) (_ : 0 < i), (S (p[i - 1]'(by omega))).dst = (S (p[i]'hi)).fr ∧ (S (p[i - 1]'(by omega))).arr ≤ (S (p[i]'hi)).dep
theorem legs_steps {N : Nat} {S : Nat → Sail} (hr : Rising N S) {p : List Nat} (hp : ∀ k ∈ p, k < N) (h1 : p ≠ []) (h3 : p.length ≤ 3) : LegsOk N S p.length (getI (ids S p)) ↔ Steps S p := by
  have hl : 1 ≤ p.length := by cases p with
    | nil => exact absurd rfl h1
    | cons _ _ => simp
  have fi : ∀ i (hi : i < p.length), findIx S (getI (ids S p) i) N = p[i]'hi := fun i hi => by rw [getI_ids hi]; exact findIx_id hr (hp _ (List.getElem_mem hi))
  constructor
  · rintro ⟨_, _, h⟩ i hi h0
    have := (h i hi).2 h0
    rw [fi i hi, fi (i - 1) (by omega)] at this
    exact this
  · intro h
    refine ⟨hl, h3, fun i hi => ⟨by rw [fi i hi]; exact hp _ (List.getElem_mem hi), fun h0 => ?_⟩⟩
    rw [fi i hi, fi (i - 1) (by omega)]
    exact h i hi h0
theorem steps_snoc {S : Nat → Sail} {r : List Nat} {k : Nat} (hr : Steps S r) : Steps S (r ++ [k]) ↔ ∀ l, r.getLast? = some l → (S l).dst = (S k).fr ∧ (S l).arr ≤ (S k).dep := by
  constructor
  · intro h l hl
    have hne : r ≠ [] := by intro e; subst e; simp at hl
    have hlen : 0 < r.length := List.length_pos_iff.2 hne
    have := h r.length (by simp) hlen
    rw [List.getLast?_eq_getElem?] at hl
    obtain ⟨h1, e⟩ := List.getElem?_eq_some_iff.1 hl
    simp only [List.getElem_append_left (show r.length - 1 < r.length by omega), List.getElem_append_right (Nat.le_refl r.length), Nat.sub_self, List.getElem_singleton] at this
    rw [e] at this
    exact this
  · intro h i hi h0
    have hi' : i < r.length + 1 := by simpa using hi
    by_cases e : i = r.length
    · subst e
      simp only [List.getElem_append_left (show r.length - 1 < r.length by omega), List.getElem_append_right (Nat.le_refl r.length), Nat.sub_self, List.getElem_singleton]
      refine h _ ?_
      rw [List.getLast?_eq_getElem?, List.getElem?_eq_getElem (by omega)]
    · have h1 : i < r.length := by omega
      simp only [List.getElem_append_left h1, List.getElem_append_left (show i - 1 < r.length by omega)]
      exact hr i h1 h0
theorem path_steps {N : Nat} {S : Nat → Sail} {fr : ByteArray} {t0 : Int} {p : List Nat} (h : Path N S fr t0 p) : Steps S p ∧ ∀ k, p.head? = some k → (S k).fr = fr ∧ t0 ≤ (S k).dep := by
  induction h with
  | nil => exact ⟨fun i hi => absurd hi (Nat.not_lt_zero _), fun k hk => by cases hk⟩
  | @snoc p k hp hk hf ht ih =>
    refine ⟨(steps_snoc ih.1).2 (fun l hl => ?_), fun j hj => ?_⟩
    · unfold placeOf at hf
      unfold timeOf at ht
      rw [hl] at hf ht
      exact ⟨hf.symm, ht⟩
    · cases p with
      | nil =>
        simp at hj
        subst hj
        exact ⟨hf, ht⟩
      | cons a p => exact ih.2 j (by simpa using hj)
/-- When a way goes on by a sailing, as the specification asks it. -/
theorem goes_on {N : Nat} {S : Nat → Sail} {fr : ByteArray} {t0 : Int} (hr : Rising N S) {r : List Nat} {k : Nat} (hp : Path N S fr t0 r) (h2 : r.length ≤ 2) (hk : k < N) :
    Path N S fr t0 (r ++ [k]) ↔ LegsOk N S (r.length + 1) (getI (ids S (r ++ [k]))) ∧ ∀ j, (r ++ [k]).head? = some j → (S j).fr = fr ∧ t0 ≤ (S j).dep := by
  have hall : ∀ j ∈ r ++ [k], j < N := by
    intro j hj
    rcases List.mem_append.1 hj with h | h
    · exact path_lt hp j h
    · simp at h; omega
  have hls := legs_steps hr hall (by simp) (by simp; omega)
  rw [List.length_append, List.length_singleton] at hls
  rw [hls]
  constructor
  · intro h; exact path_steps h
  · rintro ⟨h1, h3⟩
    have hs := (steps_snoc (path_steps hp).1).1 h1
    refine .snoc hp hk ?_ ?_
    · unfold placeOf
      cases hl : r.getLast? with
      | none =>
        have : r = [] := List.getLast?_eq_none_iff.1 hl
        subst this
        exact (h3 k (by simp)).1
      | some l => exact (hs l hl).1.symm
    · unfold timeOf
      cases hl : r.getLast? with
      | none =>
        have : r = [] := List.getLast?_eq_none_iff.1 hl
        subst this
        exact (h3 k (by simp)).2
      | some l => exact (hs l hl).2

end Go.Proofs.Ythcjfoaejomfaaa

namespace Go.Proofs.Ythcjfoaejomfaaa
open Go.RowKit

/-- A slice of n elements that is empty, or an owned row. -/
def SpecRow (w : World) (base e size : Nat) (v : Value) (n : Nat) (xs : List Value) : Prop := (n = 0 ∧ ∃ ao, v = .slice ao 0 0) ∨ (0 < n ∧ w.ownsRow base e size v n xs)
theorem SpecRow.kept {w w' : World} {base e size n : Nat} {v : Value} {xs : List Value} (h : SpecRow w base e size v n xs) (hg : w.grownBy w' none) : SpecRow w' base e size v n xs := by
  rcases h with h | ⟨h1, h2⟩
  · exact .inl h
  · exact .inr ⟨h1, h2.kept hg (Classical.em _)⟩
theorem SpecRow.alloc {w : World} {base e size n : Nat} {v : Value} {xs : List Value} (h : SpecRow w base e size v n xs) (o : Obj) : SpecRow (w.alloc o) base e size v n xs := h.kept (World.grownBy_alloc w o none)
theorem SpecRow.below {w w' : World} {base e size n : Nat} {v : Value} {xs : List Value} (h : SpecRow w base e size v n xs) (hb : Below w.heap.size w w') : SpecRow w' base e size v n xs := by
  rcases h with h | ⟨h1, h2⟩
  · exact .inl h
  · exact .inr ⟨h1, own_below hb h2⟩
theorem SpecRow.set {w : World} {base e size n : Nat} {v : Value} {xs : List Value} (h : SpecRow w base e size v n xs) {a : Addr} (ha : a.block < base) (u : Value) : SpecRow (w.setCell a u) base e size v n xs := by
  rcases h with h | ⟨h1, h2⟩
  · exact .inl h
  · exact .inr ⟨h1, ownsRow_setCell_below h2 ha u⟩
theorem SpecRow.base {w : World} {base base' e size n : Nat} {v : Value} {xs : List Value} (h : SpecRow w base e size v n xs) (hb : base' ≤ base) : SpecRow w base' e size v n xs := by
  rcases h with h | ⟨h1, h2⟩
  · exact .inl h
  · exact .inr ⟨h1, own_base h2 hb⟩
theorem SpecRow.slots {w : World} {base e n c : Nat} {ao : Option Addr} {A : Nat → Int} {U : Nat → Bool} {V : Nat → Int} (h : SpecRow w base e 3 (.slice ao n c) n (slotList A U V n)) : SlotsAt w ao n A U V := by
  rcases h with ⟨h, _⟩ | ⟨_, h2⟩
  · intro k hk; omega
  · exact own_slots h2
theorem SpecRow.ints {w : World} {base e n c : Nat} {ao : Option Addr} {F : Nat → Int} (h : SpecRow w base e 1 (.slice ao n c) n (intList F n)) : IntsAt w ao n F := by
  rcases h with ⟨h, _⟩ | ⟨_, h2⟩
  · intro k hk; omega
  · exact own_ints h2

theorem grown_below {w w' : World} (h : w.grownBy w' none) : Below w.heap.size w w' := (Below.refl _ _).grown h (Nat.le_refl _) (by simp)

/-- append(T{}, src...), one step. -/
theorem step_append_empty {P : Program} {ops : Array Oper} {o : Oper} {a : Act} {w : World} {K : Act → World → Prop} {Q : Exit → Act → World → Prop} {E : Prop}
    (hg : o.guard = none) (s x : Operand) (t : TypeId) (hop : o.op = Op.call { callee := Callee.builtin Builtin.append, args := #[s, x], argTypes := #[t, t] })
    (e : TypeId) (i : TypeInfo) (z : Value) (size bytes : Nat) (h1 : P.underlying t = some (.slice e)) (h2 : P.info? e = some i) (h3 : i.zero = some z) (h4 : i.size = size) (h5 : i.bytes = bytes) (h6 : z.cells.size = size) (h7 : 0 < size)
    (b : Nat) (hs : a.eval s = .slice (some ⟨b, 0, none⟩) 0 0)
    (bo : Option Addr) (m c : Nat) (news : List Value) (hx : a.eval x = .slice bo m c) (hnil : bo = none → m = 0 ∧ c = 0) (hn : news.length = m * size) (hc : ∀ ad, bo = some ad → ∀ j u, news[j]? = some u → w.cell? (ad.add j) = some u) (h1c : ∀ u ∈ news, u.oneCell' = true)
    (b1 : m ≤ maxLen) (b2 : m * bytes ≤ 140737488355328)
    (hK : ∀ ao' c' w', w.grownBy w' none → m ≤ c' → c' ≤ maxLen → SpecRow w' w.heap.size e size (.slice ao' m c') m news → K (a.put o.dst (.slice ao' m c')) w') :
    if Region.wanted o (yielded ops a.tmps) = true then Oper.wp P o a w K Q else E := by
  by_cases hm : m = 0
  · subst hm
    have hnews : news = [] := List.eq_nil_of_length_eq_zero (by simpa using hn)
    subst hnews
    have hk := hK (some ⟨b, 0, none⟩) 0 w (World.grownBy.refl w none) (Nat.le_refl _) (Nat.zero_le _) (.inl ⟨rfl, _, rfl⟩)
    have hw : Region.wanted o (yielded ops a.tmps) = true := by simp [Region.wanted, hg]
    cases bo with
    | none =>
      obtain ⟨_, rfl⟩ := hnil rfl
      rw [if_pos hw]
      unfold Oper.wp
      have hrun : (Builtin.append_ #[t, t] o.type #[.slice (some ⟨b, 0, none⟩) 0 0, .slice none 0 0]).run P w = .ok (.slice (some ⟨b, 0, none⟩) 0 0) w := by
        simp [Builtin.append_, run_underlying h1, sizeOf, typeInfo, h2, Builtin.lenOf, Builtin.firstCells, storeCells]
      simp [execOp, hop, resolve, invoke, builtin, hs, hx, hrun, Result.andThen]
      exact hk
    | some ad => exact step_append_room hg s x t hop e i size h1 h2 h4 b 0 0 0 hs ad 0 c [] hx (by simp) (by simp) (by simp) (Nat.le_refl _) (by simp) (by simpa [World.setCells] using hk)
  · cases bo with
    | none => exact absurd (hnil rfl).1 hm
    | some ad =>
      refine step_append_grows hg s x t hop e i z size bytes h1 h2 h3 h4 h5 h6 h7 (some ⟨b, 0, none⟩) 0 0 [] hs (by intro h; cases h) (by simp) (by simp) ad m c news hx hn (hc ad rfl) h1c (by omega) (by omega) (by rw [Nat.zero_add]; exact b2) ?_
      intro v' w' hown hgrow
      rw [Nat.zero_add, List.nil_append] at hown
      obtain ⟨ao', c', rfl, hc1, hc2, _⟩ := own_form hown
      exact hK ao' c' w' hgrow hc1 hc2 (.inr ⟨by omega, hown⟩)

end Go.Proofs.Ythcjfoaejomfaaa
