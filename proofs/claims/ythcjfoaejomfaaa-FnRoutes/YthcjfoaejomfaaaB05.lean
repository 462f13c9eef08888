/-
  OWN TEXT: KitSh, KitD.
-/
import Derived.Test.YthcjfoaejomfaaaRows
import Derived.Test.YthcjfoaejomfaaaB04
import Derived.Test.YthcjfoaejomfaaaB00
namespace Go.Proofs.Ythcjfoaejomfaaa
open Go.RowKit

def ShortS (s : Sail) (B : Nat) : Prop := s.fr.size ≤ B ∧ s.dst.size ≤ B ∧ s.la.n ≤ B ∧ s.ca.n ≤ B
def ShortAll (N : Nat) (S : Nat → Sail) (B : Nat) : Prop := ∀ i, i < N → ShortS (S i) B
theorem Try.infoLane : (Try.prog.info? 70).map (fun i => (i.zero, i.size, i.bytes)) = some (some (.agg #[.int .i64 0, .int .i64 0]), 2, 16) := by kernel_rfl
theorem Try.infoCabin : (Try.prog.info? 72).map (fun i => (i.zero, i.size, i.bytes)) = some (some (.agg #[.int .i64 0, .int .i64 0]), 2, 16) := by kernel_rfl
theorem Try.infoSailing : (Try.prog.info? 33).map (fun i => (i.zero, i.size, i.bytes)) = some (some (.agg #[.int .i64 0, .string ⟨#[]⟩, .string ⟨#[]⟩, .int .i64 0, .int .i64 0, .slice none 0 0, .slice none 0 0, .int .i64 0]), 8, 112) := by kernel_rfl

end Go.Proofs.Ythcjfoaejomfaaa

namespace Go.Proofs.Ythcjfoaejomfaaa
open Go.RowKit

/-- The cell j of a row of records of sz cells each. -/
def recCell (sz : Nat) (C : Nat → List Value) (j : Nat) : Value := (C (j / sz)).getD (j % sz) (.bool false)
theorem recCell_at (sz : Nat) (C : Nat → List Value) (k j : Nat) (hj : j < sz) : recCell sz C (k * sz + j) = (C k).getD j (.bool false) := by
  unfold recCell
  have h0 : 0 < sz := by omega
  rw [show (k * sz + j) / sz = k by rw [Nat.add_comm, Nat.add_mul_div_right _ _ h0, Nat.div_eq_of_lt hj, Nat.zero_add], show (k * sz + j) % sz = j by rw [Nat.add_comm, Nat.add_mul_mod_self_right, Nat.mod_eq_of_lt hj]]
/-- A run of stores into one block. -/
def setFrom (w : World) (g : Nat) : Nat → List Value → World
  | _, [] => w
  | o, v :: vs => setFrom (w.setCell ⟨g, o, none⟩ v) g (o + 1) vs
theorem setFrom_other {g x t n : Nat} {f : Nat → Value} (hx : x ≠ g) : ∀ (vs : List Value) (o : Nat) (w : World), w.rowIs x t n f → (setFrom w g o vs).rowIs x t n f
  | [], _, _, h => h
  | v :: r, o, _, h => setFrom_other hx r (o + 1) _ (h.setOther (by exact hx) v)
theorem setFrom_blk_other {g b : Nat} {x : Obj} (hne : b ≠ g) : ∀ (vs : List Value) (o : Nat) (w : World), w.heap[b]? = some x → (setFrom w g o vs).heap[b]? = some x
  | [], _, _, h => h
  | v :: r, o, _, h => setFrom_blk_other hne r (o + 1) _ (blk_set_other h o v hne)
theorem setFrom_below {g : Nat} {w0 : World} (hg : w0.heap.size ≤ g) : ∀ (vs : List Value) (o : Nat) (w : World), Below w0.heap.size w0 w → Below w0.heap.size w0 (setFrom w g o vs)
  | [], _, _, h => h
  | v :: r, o, _, h => setFrom_below hg r (o + 1) _ (h.setCell (by exact hg) v)
theorem setFrom_kept {g : Nat} {S : Nat → Prop} {w0 : World} (hg : S g) : ∀ (vs : List Value) (o : Nat) (w : World), Kept w0 w S → Kept w0 (setFrom w g o vs) S
  | [], _, _, h => h
  | v :: r, o, _, h => setFrom_kept hg r (o + 1) _ (h.set (a := ⟨g, o, none⟩) hg v)
theorem setFrom_size (g : Nat) : ∀ (vs : List Value) (o : Nat) (w : World), (setFrom w g o vs).heap.size = w.heap.size
  | [], _, _ => rfl
  | v :: r, o, w => by rw [setFrom, setFrom_size g r (o + 1), World.size_setCell]
theorem setFrom_row {b t n : Nat} : ∀ (vs : List Value) (o : Nat) (w : World) (f : Nat → Value), w.rowIs b t n f → (setFrom w b o vs).rowIs b t n (fun j => if o ≤ j ∧ j < o + vs.length then vs.getD (j - o) (.bool false) else f j)
  | [], o, w, f, h => h.congr (fun j _ => by rw [if_neg (by simp)])
  | v :: r, o, w, f, h => by
    have ih := setFrom_row r (o + 1) _ _ (h.set o v)
    refine ih.congr (fun j _ => ?_)
    by_cases h1 : j = o
    · subst h1
      rw [if_neg (by omega), if_pos rfl, if_pos (by simp), Nat.sub_self]
      rfl
    · by_cases h2 : o + 1 ≤ j ∧ j < o + 1 + r.length
      · rw [if_pos h2, if_pos (by simp; omega), show j - o = (j - (o + 1)) + 1 by omega]
        simp
      · rw [if_neg h2, if_neg h1, if_neg (by simp; omega)]
/-- A record is stored into a row of records. -/
theorem rec_set {w : World} {g t n sz k : Nat} {C C' : Nat → List Value} {vs : List Value} (h : w.rowIs g t n (recCell sz C)) (hv : vs.length = sz) (h0 : 0 < sz) (hC : ∀ i, i ≠ k → C' i = C i) (hk : C' k = vs) :
    (setFrom w g (k * sz) vs).rowIs g t n (recCell sz C') := by
  refine (setFrom_row vs (k * sz) w _ h).congr fun j _ => ?_
  by_cases e : j / sz = k
  · have h1 : k * sz ≤ j := by rw [← e]; exact Nat.div_mul_le_self j sz
    have h2 : j < k * sz + sz := by
      have := Nat.lt_div_mul_add h0 (a := j)
      rw [e] at this; exact this
    rw [if_pos ⟨h1, by omega⟩]
    unfold recCell
    rw [e, hk, show j % sz = j - k * sz by have := Nat.div_add_mod j sz; rw [e, Nat.mul_comm] at this; omega]
  · rw [if_neg (by
      rintro ⟨h1, h2⟩
      apply e
      rw [hv] at h2
      have : j = (j - k * sz) + k * sz := by omega
      rw [this, Nat.add_mul_div_right _ _ h0, Nat.div_eq_of_lt (by omega), Nat.zero_add])]
    unfold recCell
    rw [hC _ e]

/-- The slice at ao reads as N records of sz cells. -/
def RecsAt (w : World) (ao : Option Addr) (N sz : Nat) (C : Nat → List Value) : Prop :=
  ∀ k, k < N → ∃ b off, ao = some ⟨b, off, none⟩ ∧ ∀ j, j < sz → w.cell? ⟨b, off + k * sz + j, none⟩ = some ((C k).getD j (.bool false))
theorem RecsAt.below {w w' : World} {ao : Option Addr} {N sz : Nat} {C : Nat → List Value} (h : RecsAt w ao N sz C) (hb : Below w.heap.size w w') : RecsAt w' ao N sz C := by
  intro k hk
  obtain ⟨b, off, e, hc⟩ := h k hk
  exact ⟨b, off, e, fun j hj => (hb.cell (World.block_lt_of_cell? w _ (hc j hj))).trans (hc j hj)⟩
theorem RecsAt.of_row {w : World} {g t N sz : Nat} {C : Nat → List Value} (h : w.rowIs g t (N * sz) (recCell sz C)) : RecsAt w (some ⟨g, 0, none⟩) N sz C := by
  intro k hk
  refine ⟨g, 0, rfl, fun j hj => ?_⟩
  have : k * sz + j < N * sz := by
    have h1 : (k + 1) * sz ≤ N * sz := Nat.mul_le_mul_right sz hk
    rw [Nat.add_mul] at h1
    omega
  rw [Nat.zero_add, h.cell this, recCell_at sz C k j hj]
theorem RecsAt.upto {w : World} {ao : Option Addr} {N M sz : Nat} {C : Nat → List Value} (h : RecsAt w ao N sz C) (hM : M ≤ N) : RecsAt w ao M sz C := fun k hk => h k (by omega)

/-- The cells of N made records that are all zero. -/
theorem made_recs {z : Array Value} {sz : Nat} (hz : z.size = sz) (n j : Nat) (hj : j < n * sz) : (madeCells z (n * sz)).toList.getD j (.bool false) = recCell sz (fun _ => z.toList) j := by
  have h0 : 0 < sz := by rcases Nat.eq_zero_or_pos sz with h | h; subst h; omega; exact h
  simp only [madeCells, Array.toList_map, List.getD_eq_getElem?_getD, List.getElem?_map, Array.toList_range, List.getElem?_range hj, Option.map_some, Option.getD_some]
  unfold recCell
  rw [List.getD_eq_getElem?_getD]
  have hm : j % sz < z.size := by rw [hz]; exact Nat.mod_lt _ h0
  simp [hz]
  rw [getElem!_pos z _ hm, Array.getElem?_eq_getElem hm]
  rfl

end Go.Proofs.Ythcjfoaejomfaaa
