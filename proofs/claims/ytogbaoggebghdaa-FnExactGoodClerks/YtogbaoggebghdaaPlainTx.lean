/-
  OWN TEXT: the order of texts: just one of two texts is below the other, or they are the same. No theorem of the program.
-/
import Derived.Test.YtogbaoggebghdaaPlainCk
import Derived.Test.YtogbaoggebghdaaPlainS
namespace Go.Proofs.Ytogbaoggebghdaa
open Go.RowKit Classical

theorem less_eq : ∀ (x y : List UInt8), Op.bytesLess x y = decide (x < y)
  | [], [] => by simp [Op.bytesLess]
  | _ :: _, [] => by simp [Op.bytesLess]
  | [], _ :: _ => by simp [Op.bytesLess]
  | a :: x, b :: y => by
    rw [Op.bytesLess, less_eq x y]
    simp only [List.cons_lt_cons_iff]
    by_cases h1 : a < b <;> by_cases h2 : a = b <;> by_cases h3 : x < y <;> simp [h1, h2, h3]
theorem bytes_ext {a b : ByteArray} (h : a.toList = b.toList) : a = b := bytes_eq.1 (by rw [h]; exact beq_self_eq_true _)
theorem less_tri : ∀ (x y : List UInt8), (Op.bytesLess x y || x == y) = !Op.bytesLess y x
  | [], [] => by simp [Op.bytesLess]
  | _ :: _, [] => by simp [Op.bytesLess]
  | [], _ :: _ => by simp [Op.bytesLess]
  | a :: x, b :: y => by
    have ih := less_tri x y
    rw [Op.bytesLess, Op.bytesLess, List.cons_beq_cons]
    by_cases h1 : a < b
    · have h2 : ¬ b < a := UInt8.lt_asymm h1
      have h3 : (b == a) = false := by simp; rintro rfl; exact h2 h1
      simp [h1, h2, h3]
    · by_cases h2 : b < a
      · have h3 : (a == b) = false := by simp; rintro rfl; exact h1 h2
        simp [h1, h2, h3]
      · have h3 : a = b := by
          have e1 := UInt8.not_lt.1 h1
          have e2 := UInt8.not_lt.1 h2
          exact UInt8.le_antisymm e2 e1
        subst h3
        simpa using ih
theorem less_trans {x y z : List UInt8} (h1 : Op.bytesLess x y = true) (h2 : Op.bytesLess y z = true) : Op.bytesLess x z = true := by
  rw [less_eq] at *
  simp only [decide_eq_true_eq] at *
  exact List.lt_trans h1 h2
theorem textLt.trans {a b c : ByteArray} (h1 : textLt a b) (h2 : textLt b c) : textLt a c := less_trans h1 h2
theorem textLt.irrefl (a : ByteArray) : ¬ textLt a a := by
  unfold textLt
  rw [less_eq]
  simp
theorem textLt.asymm {a b : ByteArray} (h1 : textLt a b) : ¬ textLt b a := fun h2 => textLt.irrefl a (h1.trans h2)
theorem textLt.not_iff {a b : ByteArray} : ¬ textLt a b ↔ textLt b a ∨ b = a := by
  have h := less_tri b.toList a.toList
  unfold textLt
  constructor
  · intro h1
    rw [Bool.eq_false_iff.2 h1] at h
    simp at h
    rcases h with h | h
    · exact Or.inl h
    · exact Or.inr (bytes_ext h)
  · rintro (h1 | rfl)
    · exact textLt.asymm h1
    · exact textLt.irrefl _
/-- In good clerks names rise. -/
theorem ClerksOk.lt {N : Nat} {S : Nat → ClkD} (h : ClerksOk N S) : ∀ {i j : Nat}, i < j → j < N → textLt (S i).nam (S j).nam := by
  intro i j hij hj
  induction j with
  | zero => omega
  | succ j ih =>
    have h1 := (h.2 (j + 1) hj).2.1 (by omega)
    rw [Nat.add_sub_cancel] at h1
    by_cases h2 : i = j
    · subst h2; exact h1
    · exact (ih (by omega) (by omega)).trans h1

end Go.Proofs.Ytogbaoggebghdaa
