/-
  OWN TEXT: PlainTx, KitStaff.
-/
import Derived.Maps.OwnSet
import Derived.Maps.OwnOps
import Derived.Test.YtogbaoggebghdaaB09
import Derived.Test.YtogbaoggebghdaaB08
namespace Go.Proofs.Ytogbaoggebghdaa
open Go.RowKit Classical

theorem less_eq : ∀ (x y : List UInt8), Op.bytesLess x y = decide (x < y)
  | [], [] => by simp [Op.bytesLess]
  | _ :: _, [] => by simp [Op.bytesLess]
  | [], _ :: _ => by simp [Op.bytesLess]
  | a :: x, b :: y => by
    rw [Op.bytesLess, less_eq x y]
    simp only [List.cons_lt_cons_iff]
    by_cases h1 : a < b <;> by_cases h2 : a = b <;> by_cases h3 : x < y <;> simp [h1, h2, h3]
theorem text_ext {a b : ByteArray} (h : a.toList = b.toList) : a = b := bytes_eq.1 (by rw [h]; exact beq_self_eq_true _)
theorem less_tri : ∀ (x y : List UInt8), (Op.bytesLess x y || x == y) = !Op.bytesLess y x
  | [], [] => by simp [Op.bytesLess]
  | _ :: _, [] => by simp [Op.bytesLess]
  | [], _ :: _ => by simp [Op.bytesLess]
  | a :: x, b :: y => by
    have ih := less_tri x y
    rw [Op.bytesLess, Op.bytesLess, List.cons_beq_cons]
    by_cases h1 : a < b
    · have h2 : ¬ b < a := UInt8.lt_asymm h1
      have h3 : (b == a) = false := by simp; rintro rfl; exact h2 h1
      simp [h1, h2, h3]
    · by_cases h2 : b < a
      · have h3 : (a == b) = false := by simp; rintro rfl; exact h1 h2
        simp [h1, h2, h3]
      · have h3 : a = b := by
          have e1 := UInt8.not_lt.1 h1
          have e2 := UInt8.not_lt.1 h2
          exact UInt8.le_antisymm e2 e1
        subst h3
        simpa using ih
theorem less_trans {x y z : List UInt8} (h1 : Op.bytesLess x y = true) (h2 : Op.bytesLess y z = true) : Op.bytesLess x z = true := by
  rw [less_eq] at *
  simp only [decide_eq_true_eq] at *
  exact List.lt_trans h1 h2
theorem textLt.trans {a b c : ByteArray} (h1 : textLt a b) (h2 : textLt b c) : textLt a c := less_trans h1 h2
theorem textLt.irrefl (a : ByteArray) : ¬ textLt a a := by
  unfold textLt
  rw [less_eq]
  simp
theorem textLt.asymm {a b : ByteArray} (h1 : textLt a b) : ¬ textLt b a := fun h2 => textLt.irrefl a (h1.trans h2)
theorem textLt.not_iff {a b : ByteArray} : ¬ textLt a b ↔ textLt b a ∨ b = a := by
  have h := less_tri b.toList a.toList
  unfold textLt
  constructor
  · intro h1
    rw [Bool.eq_false_iff.2 h1] at h
    simp at h
    rcases h with h | h
    · exact Or.inl h
    · exact Or.inr (text_ext h)
  · rintro (h1 | rfl)
    · exact textLt.asymm h1
    · exact textLt.irrefl _
/-- In good clerks names rise. -/
theorem ClerksOk.lt {N : Nat} {S : Nat → ClkD} (h : ClerksOk N S) : ∀ {i j : Nat}, i < j → j < N → textLt (S i).nam (S j).nam := by
  intro i j hij hj
  induction j with
  | zero => omega
  | succ j ih =>
    have h1 := (h.2 (j + 1) hj).2.1 (by omega)
    rw [Nat.add_sub_cancel] at h1
    by_cases h2 : i = j
    · subst h2; exact h1
    · exact (ih (by omega) (by omega)).trans h1

end Go.Proofs.Ytogbaoggebghdaa

namespace Go.Proofs.Ytogbaoggebghdaa
open Go.RowKit Classical Go.MapKept Go.ChangeMaps

theorem Try.keyedS : Maps.Keyed Try.prog 9 := Maps.string_keyed Try.underlying9
def strLit (s : ByteArray) : Lit := .string s.data.toList
theorem strLit_inj {a b : ByteArray} (h : strLit a = strLit b) : a = b := by
  unfold strLit at h
  simp only [Lit.string.injEq] at h
  exact ByteArray.ext (Array.toList_inj.1 h)
theorem key_text {s : ByteArray} (h : s.size ≤ 1048576) : keyOf Try.prog 9 (.string s) = some (strLit s) := by
  have hw : s.size ≤ maxLen := by unfold maxLen; omega
  simp [keyOf, mapKey, Try.underlying9, strLit, hw]
theorem strLit_key (s : ByteArray) : WideAt.IsKeyLit (strLit s) := by unfold strLit; simp [WideAt.IsKeyLit]
/-- The block mb is a map that holds just these texts; it has at most K entries. -/
def SetS (w : World) (mb K : Nat) (O : ByteArray → Prop) : Prop := ∃ D : DataW Unit, w.ownsMap Try.prog 9 (unitElem (H := Unit)) mb K D ∧ ∀ s : ByteArray, Maps.has D (strLit s) = true ↔ O s
theorem SetS.kept {w w' : World} {T : Nat → Prop} {b K : Nat} {O : ByteArray → Prop} (h : SetS w b K O) (hk : Kept w w' T) (hs : ¬ T b) : SetS w' b K O := by
  obtain ⟨D, ⟨es, clock, hb, r⟩, hO⟩ := h
  exact ⟨D, ⟨es, clock, (hk.block b (blk_lt hb) hs).trans hb, r⟩, hO⟩
theorem SetS.map {w : World} {b K : Nat} {O : ByteArray → Prop} (h : SetS w b K O) : ∃ es clock, w.heap[b]? = some (.map es clock) := by
  obtain ⟨D, ⟨es, clock, hb, r⟩, hO⟩ := h
  exact ⟨es, clock, hb⟩
theorem SetS.congr {w : World} {b K : Nat} {O O' : ByteArray → Prop} (h : SetS w b K O) (e : ∀ s, O s ↔ O' s) : SetS w b K O' := by
  obtain ⟨D, hb, hO⟩ := h
  exact ⟨D, hb, fun s => (hO s).trans (e s)⟩
theorem own_blk {w : World} {base e size n : Nat} {v : Value} {xs : List Value} (h : w.ownsRow base e size v n xs) {g : Nat} (hg : v.ownBlock = some g) : ∃ cur, w.heap[g]? = some (.cells cur e (0, 0)) := by
  rcases h.2 with ⟨rfl, _⟩ | ⟨g', cap', cur, rfl, _, hg', _⟩
  · simp [Value.ownBlock] at hg
  · simp only [Value.ownBlock, Option.some.injEq] at hg
    subst hg
    exact ⟨cur, hg'⟩
/-- A staff at sb: own clerks, the set of those that are open, and how many clerks there are. -/
structure Staff (w : World) (base sb mb K : Nat) (v : Value) (N : Nat) (S : Nat → ClkD) (R : Nat → Value) (O : ByteArray → Prop) : Prop where
  blk : w.heap[sb]? = some (.cells #[v, .map (some mb), .int .i64 N] 107 (0, 0))
  hsb : base ≤ sb
  hmb : base ≤ mb
  own : OwnClks w base v N S R
  set : SetS w mb K O
section
variable {w w' : World} {base sb mb K : Nat} {v : Value} {N : Nat} {S : Nat → ClkD} {R : Nat → Value} {O : ByteArray → Prop}
theorem Staff.below (h : Staff w base sb mb K v N S R O) (hb : Below w.heap.size w w') : Staff w' base sb mb K v N S R O :=
  ⟨blk_below h.blk hb, h.hsb, h.hmb, h.own.below hb, h.set.kept (Kept.of_below (S := fun _ => False) hb) (fun h => h)⟩
theorem Staff.lt (h : Staff w base sb mb K v N S R O) : sb < w.heap.size := blk_lt h.blk
theorem Staff.ltm (h : Staff w base sb mb K v N S R O) : mb < w.heap.size := by obtain ⟨_, _, hb⟩ := h.set.map; exact blk_lt hb
theorem Staff.sm (h : Staff w base sb mb K v N S R O) : sb ≠ mb := by
  rintro rfl
  obtain ⟨_, _, hb⟩ := h.set.map
  have := h.blk
  rw [hb] at this
  cases this
theorem Staff.vs (h : Staff w base sb mb K v N S R O) : ∀ g, v.ownBlock = some g → g ≠ sb := by
  rintro g hg rfl
  obtain ⟨cur, hc⟩ := own_blk h.own.row hg
  have := h.blk
  rw [hc] at this
  simp only [Option.some.injEq, Obj.cells.injEq] at this
  exact absurd this.2.1 (by decide)
theorem Staff.vm (h : Staff w base sb mb K v N S R O) : ∀ g, v.ownBlock = some g → g ≠ mb := by
  rintro g hg rfl
  obtain ⟨cur, hc⟩ := own_blk h.own.row hg
  obtain ⟨_, _, hb⟩ := h.set.map
  rw [hc] at hb
  cases hb
theorem Staff.rs (h : Staff w base sb mb K v N S R O) : ∀ i, i < N → ∀ g, (R i).ownBlock = some g → g ≠ sb := by
  rintro i hi g hg rfl
  obtain ⟨cur, hc⟩ := own_blk (h.own.rows i hi) hg
  have := h.blk
  rw [hc] at this
  simp only [Option.some.injEq, Obj.cells.injEq] at this
  exact absurd this.2.1 (by decide)
theorem Staff.rm (h : Staff w base sb mb K v N S R O) : ∀ i, i < N → ∀ g, (R i).ownBlock = some g → g ≠ mb := by
  rintro i hi g hg rfl
  obtain ⟨cur, hc⟩ := own_blk (h.own.rows i hi) hg
  obtain ⟨_, _, hb⟩ := h.set.map
  rw [hc] at hb
  cases hb
theorem Staff.rv (h : Staff w base sb mb K v N S R O) : ∀ i, i < N → ∀ g, (R i).ownBlock = some g → v.ownBlock ≠ some g := fun i hi g hg => own_apart (h.own.rows i hi) h.own.row (by decide) g hg
end

end Go.Proofs.Ytogbaoggebghdaa
