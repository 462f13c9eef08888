/-
  OWN TEXT: HeldL0, OwnL.
-/
import Derived.Test.YtdmkpflphjemoaaB03
import Derived.Test.YtdmkpflphjemoaaB05
namespace Go.Proofs.Ytdmkpflphjemoaa
open Go.RowKit

theorem LocksOwn.below {w w' : World} {base N : Nat} {v : Value} {K : Nat → Int} {H Q : Nat → Line} {hs qs : Nat → Value} (L : LocksOwn w base N v K H Q hs qs) (hb : Below w.heap.size w w') : LocksOwn w' base N v K H Q hs qs :=
  ⟨own_below hb L.row, fun i hi => own_below hb (L.held i hi), fun i hi => own_below hb (L.queue i hi), L.hh, L.hq, L.qq⟩

end Go.Proofs.Ytdmkpflphjemoaa

namespace Go.Proofs.Ytdmkpflphjemoaa
open Go.RowKit

def atL (f : Nat → Value) (k : Nat) (v : Value) (i : Nat) : Value := if i = k then v else f i
theorem atL_at (f : Nat → Value) (k : Nat) (v : Value) : atL f k v k = v := if_pos rfl
theorem atL_ne (f : Nat → Value) (k : Nat) (v : Value) (i : Nat) (h : i ≠ k) : atL f k v i = f i := if_neg h
theorem lockRow_snoc (K : Nat → Int) (hs qs : Nat → Value) (k : Nat) (hv qv : Value) :
    (List.range ((k + 1) * 3)).map (lockCell K (atL hs k hv) (atL qs k qv)) = (List.range (k * 3)).map (lockCell K hs qs) ++ [.int .i64 (K k), hv, qv] := by
  rw [show (k + 1) * 3 = k * 3 + 1 + 1 + 1 by omega, List.range_succ, List.range_succ, List.range_succ]
  simp only [List.map_append, List.map_cons, List.map_nil, List.append_assoc, List.cons_append, List.nil_append]
  rw [lockCell_0, lockCell_1, show k * 3 + 1 + 1 = k * 3 + 2 by omega, lockCell_2, atL_at, atL_at]
  congr 1
  refine List.map_congr_left fun j hj => ?_
  have hj' : j < k * 3 := by simpa using hj
  unfold lockCell
  rw [atL_ne _ _ _ _ (show j / 3 ≠ k by omega), atL_ne _ _ _ _ (show j / 3 ≠ k by omega)]
theorem LocksOwn.nil (w : World) (base : Nat) (K : Nat → Int) (H Q : Nat → Line) (hs qs : Nat → Value) : LocksOwn w base 0 (.slice none 0 0) K H Q hs qs :=
  ⟨⟨rfl, .inl ⟨rfl, rfl⟩⟩, fun i hi => by omega, fun i hi => by omega, fun i j hi => by omega, fun i j hi => by omega, fun i j hi => by omega⟩
theorem LocksOwn.lim {w : World} {base N : Nat} {v : Value} {K : Nat → Int} {H Q : Nat → Line} {hs qs : Nat → Value} (L : LocksOwn w base N v K H Q hs qs) : ∀ b, LockBlocks N v hs qs b → base ≤ b ∧ b < w.heap.size := by
  rintro b (e | ⟨i, hi, e | e⟩)
  · exact L.row.lt b e
  · exact (L.held i hi).lt b e
  · exact (L.queue i hi).lt b e
/-- One lock more behind the others. -/
theorem LocksOwn.snoc {w w' : World} {base k lim : Nat} {v v' hv qv : Value} {K : Nat → Int} {H Q : Nat → Line} {hs qs : Nat → Value} (L : LocksOwn w base k v K H Q hs qs) (hlim : ∀ b, LockBlocks k v hs qs b → b < lim)
    (h1 : w.ownsRow lim 57 2 hv (H k).n (askList (H k))) (h2 : w.ownsRow lim 57 2 qv (Q k).n (askList (Q k))) (h12 : ∀ b, hv.ownBlock = some b → qv.ownBlock ≠ some b) (hb : base ≤ lim) (hg : w.grownBy w' v.ownBlock)
    (ho : w'.ownsRow base 60 3 v' (k + 1) ((List.range (k * 3)).map (lockCell K hs qs) ++ [.int .i64 (K k), hv, qv])) :
    LocksOwn w' base (k + 1) v' K H Q (atL hs k hv) (atL qs k qv) := by
  have hk := kept_by hg
  have far : ∀ b, lim ≤ b → ∀ i, i < k → (hs i).ownBlock ≠ some b ∧ (qs i).ownBlock ≠ some b := fun b hb i hi =>
    ⟨fun e => by have := hlim b (.inr ⟨i, hi, .inl e⟩); omega, fun e => by have := hlim b (.inr ⟨i, hi, .inr e⟩); omega⟩
  refine ⟨by rw [lockRow_snoc]; exact ho, fun i hi => ?_, fun i hi => ?_, fun i j hi hj hne b e1 e2 => ?_, fun i j hi hj b e1 e2 => ?_, fun i j hi hj hne b e1 e2 => ?_⟩
  · by_cases e : i = k
    · subst e; rw [atL_at]; exact hk.own (own_base h1 hb) (fun g hg1 hg2 => own_apart L.row (own_base h1 hb) (by decide) g hg2 hg1)
    · rw [atL_ne _ _ _ _ e]; exact hk.own (L.held i (by omega)) (fun g hg1 hg2 => own_apart L.row (L.held i (by omega)) (by decide) g hg2 hg1)
  · by_cases e : i = k
    · subst e; rw [atL_at]; exact hk.own (own_base h2 hb) (fun g hg1 hg2 => own_apart L.row (own_base h2 hb) (by decide) g hg2 hg1)
    · rw [atL_ne _ _ _ _ e]; exact hk.own (L.queue i (by omega)) (fun g hg1 hg2 => own_apart L.row (L.queue i (by omega)) (by decide) g hg2 hg1)
  · by_cases ei : i = k
    · subst ei
      rw [atL_at] at e1
      rw [atL_ne _ _ _ _ (fun h => hne h.symm)] at e2
      exact (far b (h1.lt b e1).1 j (by omega)).1 e2
    · rw [atL_ne _ _ _ _ ei] at e1
      by_cases ej : j = k
      · subst ej; rw [atL_at] at e2; exact (far b (h1.lt b e2).1 i (by omega)).1 e1
      · rw [atL_ne _ _ _ _ ej] at e2; exact L.hh i j (by omega) (by omega) hne b e1 e2
  · by_cases ei : i = k
    · subst ei
      rw [atL_at] at e1
      by_cases ej : j = i
      · subst ej; rw [atL_at] at e2; exact h12 b e1 e2
      · rw [atL_ne _ _ _ _ ej] at e2; exact (far b (h1.lt b e1).1 j (by omega)).2 e2
    · rw [atL_ne _ _ _ _ ei] at e1
      by_cases ej : j = k
      · subst ej; rw [atL_at] at e2; exact (far b (h2.lt b e2).1 i (by omega)).1 e1
      · rw [atL_ne _ _ _ _ ej] at e2; exact L.hq i j (by omega) (by omega) b e1 e2
  · by_cases ei : i = k
    · subst ei
      rw [atL_at] at e1
      rw [atL_ne _ _ _ _ (fun h => hne h.symm)] at e2
      exact (far b (h2.lt b e1).1 j (by omega)).2 e2
    · rw [atL_ne _ _ _ _ ei] at e1
      by_cases ej : j = k
      · subst ej; rw [atL_at] at e2; exact (far b (h2.lt b e2).1 i (by omega)).2 e1
      · rw [atL_ne _ _ _ _ ej] at e2; exact L.qq i j (by omega) (by omega) hne b e1 e2

end Go.Proofs.Ytdmkpflphjemoaa
