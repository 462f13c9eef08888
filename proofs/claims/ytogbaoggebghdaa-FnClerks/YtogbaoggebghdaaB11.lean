/-
  OWN TEXT: KitIns, InsU.
-/
import Derived.Shelf.Spec.SlicesInsert
import Derived.Laws.IdiomCopy
import Derived.Deep.RegionLawGrows
import Derived.Test.YtogbaoggebghdaaB08
import Derived.Test.YtogbaoggebghdaaB07
namespace Go.Proofs.Ytogbaoggebghdaa
open Go.RowKit

def insC {α : Type} (S : Nat → α) (k : Nat) (x : α) (i : Nat) : α := if i < k then S i else if i = k then x else S (i - 1)
theorem insC_lt {α : Type} (S : Nat → α) (k : Nat) (x : α) {i : Nat} (h : i < k) : insC S k x i = S i := if_pos h
theorem insC_at {α : Type} (S : Nat → α) (k : Nat) (x : α) : insC S k x k = x := by unfold insC; rw [if_neg (Nat.lt_irrefl k), if_pos rfl]
theorem insC_gt {α : Type} (S : Nat → α) (k : Nat) (x : α) {i : Nat} (h : k < i) : insC S k x i = S (i - 1) := by unfold insC; rw [if_neg (by omega), if_neg (by omega)]
/-- The cells of clerks from place k on. -/
def clkFrom (S : Nat → ClkD) (R : Nat → Value) (k N : Nat) : List Value := (List.range ((N - k) * 7)).map (fun j => clkCell S R (k * 7 + j))
theorem clkRow_ins (S : Nat → ClkD) (R : Nat → Value) (k N : Nat) (hk : k ≤ N) (x : ClkD) (rv : Value) :
    (List.range ((N + 1) * 7)).map (clkCell (insC S k x) (insC R k rv)) = (List.range (k * 7)).map (clkCell S R) ++ [.string x.nam, .int .i64 x.num, .bool x.opn, .int .i64 x.code, .int .i64 x.anam, .int .i64 x.price, rv] ++ clkFrom S R k N := by
  refine List.ext_getElem? (fun i => ?_)
  unfold clkFrom
  by_cases h1 : i < k * 7
  · rw [List.getElem?_append_left (by simp; omega), List.getElem?_append_left (by simpa using h1), List.getElem?_map, List.getElem?_map, List.getElem?_range (by omega), List.getElem?_range h1]
    simp only [Option.map_some]
    unfold clkCell
    rw [insC_lt _ _ _ (show i / 7 < k by omega), insC_lt _ _ _ (show i / 7 < k by omega)]
  · by_cases h2 : i < (k + 1) * 7
    · rw [List.getElem?_append_left (by simp; omega), List.getElem?_append_right (by simpa using h1), List.getElem?_map, List.getElem?_range (by omega)]
      simp only [Option.map_some, List.length_map, List.length_range]
      have hm : i = k * 7 ∨ i = k * 7 + 1 ∨ i = k * 7 + 2 ∨ i = k * 7 + 3 ∨ i = k * 7 + 4 ∨ i = k * 7 + 5 ∨ i = k * 7 + 6 := by omega
      rcases hm with rfl | rfl | rfl | rfl | rfl | rfl | rfl
      · rw [clkCell_0, insC_at, show k * 7 - k * 7 = 0 by omega]; rfl
      · rw [clkCell_1, insC_at, show k * 7 + 1 - k * 7 = 1 by omega]; rfl
      · rw [clkCell_2, insC_at, show k * 7 + 2 - k * 7 = 2 by omega]; rfl
      · rw [clkCell_3, insC_at, show k * 7 + 3 - k * 7 = 3 by omega]; rfl
      · rw [clkCell_4, insC_at, show k * 7 + 4 - k * 7 = 4 by omega]; rfl
      · rw [clkCell_5, insC_at, show k * 7 + 5 - k * 7 = 5 by omega]; rfl
      · rw [clkCell_6, insC_at, show k * 7 + 6 - k * 7 = 6 by omega]; rfl
    · rw [List.getElem?_append_right (by simp; omega)]
      simp only [List.length_append, List.length_map, List.length_range, List.length_cons, List.length_nil]
      by_cases h3 : i < (N + 1) * 7
      · rw [List.getElem?_map, List.getElem?_map, List.getElem?_range h3, List.getElem?_range (by omega)]
        simp only [Option.map_some]
        unfold clkCell
        rw [insC_gt _ _ _ (show k < i / 7 by omega), insC_gt _ _ _ (show k < i / 7 by omega), show k * 7 + (i - (k * 7 + (0 + 1 + 1 + 1 + 1 + 1 + 1 + 1))) = i - 7 by omega, show (i - 7) % 7 = i % 7 by omega, show (i - 7) / 7 = i / 7 - 1 by omega]
      · rw [List.getElem?_eq_none (by simp; omega), List.getElem?_eq_none (by simp; omega)]

theorem clkRow_one (S : Nat → ClkD) (R : Nat → Value) (N : Nat) (hR : ∀ i, i < N → (R i).oneCell' = true) : ∀ v ∈ (List.range (N * 7)).map (clkCell S R), v.oneCell' = true := by
  intro v hv
  obtain ⟨j, hj, rfl⟩ := List.mem_map.1 hv
  have hj' : j < N * 7 := by simpa using hj
  unfold clkCell
  repeat' split
  all_goals first | rfl | exact hR _ (by omega)
/-- A new row of own clerks, in which one without rows is put between. -/
theorem OwnClks.insNew {w w' : World} {base N k : Nat} {v v' : Value} {S : Nat → ClkD} {R : Nat → Value} {x : ClkD} (h : OwnClks w base v N S R) (hk : k ≤ N) (hx : x.rwn = 0) (hb : Below w.heap.size w w')
    (ho : w'.ownsRow base 68 7 v' (N + 1) ((List.range (k * 7)).map (clkCell S R) ++ [.string x.nam, .int .i64 x.num, .bool x.opn, .int .i64 x.code, .int .i64 x.anam, .int .i64 x.price, .slice none 0 0] ++ clkFrom S R k N)) :
    OwnClks w' base v' (N + 1) (insC S k x) (insC R k (.slice none 0 0)) := by
  rw [← clkRow_ins S R k N hk x] at ho
  refine ⟨ho, fun i hi => ?_, fun i j hij hj => ?_⟩
  · rcases Nat.lt_trichotomy i k with e | e | e
    · rw [insC_lt _ _ _ e, insC_lt _ _ _ e]; exact own_below hb (h.rows i (by omega))
    · subst e; rw [insC_at, insC_at, hx]; exact World.ownsRow_nil _ _ _ _
    · rw [insC_gt _ _ _ e, insC_gt _ _ _ e]; exact own_below hb (h.rows (i - 1) (by omega))
  · intro b h1 h2
    rcases Nat.lt_trichotomy i k with e | e | e
    · rw [insC_lt _ _ _ e] at h1
      rcases Nat.lt_trichotomy j k with f | f | f
      · rw [insC_lt _ _ _ f] at h2; exact h.apart i j hij (by omega) b h1 h2
      · subst f; rw [insC_at] at h2; cases h2
      · rw [insC_gt _ _ _ f] at h2; exact h.apart i (j - 1) (by omega) (by omega) b h1 h2
    · subst e
      rw [insC_at] at h1
      cases h1
    · rw [insC_gt _ _ _ e] at h1
      rw [insC_gt _ _ _ (by omega)] at h2
      exact h.apart (i - 1) (j - 1) (by omega) (by omega) b h1 h2
theorem own_some {w : World} {base e size n c : Nat} {ad : Addr} {xs : List Value} (h : w.ownsRow base e size (.slice (some ad) n c) n xs) : ∃ g, ad = ⟨g, 0, none⟩ ∧ base ≤ g ∧ g < w.heap.size := by
  rcases h.2 with ⟨h', _⟩ | ⟨g, cap, cur, h', hb, hg, _⟩
  · cases h'
  · simp only [Value.slice.injEq, Option.some.injEq] at h'
    exact ⟨g, h'.1, hb, blk_lt hg⟩
theorem clkFrom_none (S : Nat → ClkD) (R : Nat → Value) (k : Nat) : clkFrom S R k k = [] := by simp [clkFrom]
theorem clkFrom_length (S : Nat → ClkD) (R : Nat → Value) (k N : Nat) : (clkFrom S R k N).length = (N - k) * 7 := by simp [clkFrom]
theorem clkFrom_get {S : Nat → ClkD} {R : Nat → Value} {k N j : Nat} {u : Value} (h : (clkFrom S R k N)[j]? = some u) : j < (N - k) * 7 ∧ u = clkCell S R (k * 7 + j) := by
  unfold clkFrom at h
  rw [List.getElem?_map] at h
  by_cases hj : j < (N - k) * 7
  · rw [List.getElem?_range hj] at h
    simp only [Option.map_some, Option.some.injEq] at h
    exact ⟨hj, h.symm⟩
  · rw [List.getElem?_eq_none (by simpa using hj)] at h
    cases h
theorem clkFrom_one (S : Nat → ClkD) (R : Nat → Value) (k N : Nat) (hR : ∀ i, i < N → (R i).oneCell' = true) : ∀ v ∈ clkFrom S R k N, v.oneCell' = true := by
  intro v hv
  unfold clkFrom at hv
  obtain ⟨j, hj, rfl⟩ := List.mem_map.1 hv
  have hj' : j < (N - k) * 7 := by simpa using hj
  unfold clkCell
  repeat' split
  all_goals first | rfl | exact hR _ (by omega)
theorem clkTo_get {S : Nat → ClkD} {R : Nat → Value} {k j : Nat} {u : Value} (h : ((List.range (k * 7)).map (clkCell S R))[j]? = some u) : j < k * 7 ∧ u = clkCell S R j := by
  rw [List.getElem?_map] at h
  by_cases hj : j < k * 7
  · rw [List.getElem?_range hj] at h
    simp only [Option.map_some, Option.some.injEq] at h
    exact ⟨hj, h.symm⟩
  · rw [List.getElem?_eq_none (by simpa using hj)] at h
    cases h

end Go.Proofs.Ytogbaoggebghdaa

namespace Go.Proofs.Ytogbaoggebghdaa
open Go.RowKit Go.Lib

theorem run_copy_sz {P : Program} (w : World) (dT sT ty elem : TypeId) (sz b o dLen dCap : Nat) (a : Addr) (sLen sCap : Nat) (cs : List Value)
    (hu : P.underlying dT = some (.slice elem)) (hs : (P.info? elem).map (·.size) = some sz) (hn : cs.length = Nat.min sLen dLen * sz)
    (hsrc : ∀ j v, cs[j]? = some v → w.cell? (a.add j) = some v) (hc : ∀ j, j < cs.length → (w.cell? ⟨b, o + j, none⟩).isSome = true) (hf : ∀ j, j < cs.length → w.frozen? ⟨b, o + j, none⟩ = false) (h1 : ∀ v ∈ cs, v.oneCell' = true) :
    (Builtin.copy_ #[dT, sT] ty #[.slice (some ⟨b, o, none⟩) dLen dCap, .slice (some a) sLen sCap]).run P w = .ok (goInt (Nat.min sLen dLen)) (w.setCells b o cs) := by
  have hl := run_loadCells_list (P := P) w a cs hsrc
  have hst := run_storeCells_cells (P := P) b o cs 0 w (by simpa using hc) (by simpa using hf) h1
  cases hq : P.info? elem with
  | none => simp [hq] at hs
  | some i =>
    have hi : i.size = sz := by simpa [hq] using hs
    simp [Builtin.copy_, run_underlying hu, Builtin.lenOf, Builtin.firstCells, sizeOf, typeInfo, hq, hi, ← hn, hl, hst]

def setL : Nat → List Value → List Value → List Value
  | _, [], ys => ys
  | o, v :: r, ys => setL (o + 1) r (ys.set o v)
theorem setL_eq : ∀ (vs : List Value) (o : Nat) (ys : List Value), o + vs.length ≤ ys.length → setL o vs ys = ys.take o ++ vs ++ ys.drop (o + vs.length)
  | [], o, ys, _ => by simp [setL]
  | v :: r, o, ys, h => by
    have hl : o + 1 + r.length ≤ ys.length := by simp only [List.length_cons] at h; omega
    rw [setL, setL_eq r (o + 1) (ys.set o v) (by rw [List.length_set]; exact hl)]
    have e1 : (ys.set o v).take (o + 1) = ys.take o ++ [v] := by
      rw [List.take_add_one, List.take_set_of_le (Nat.le_refl o), List.getElem?_set_self (by omega)]; rfl
    have e2 : (ys.set o v).drop (o + 1 + r.length) = ys.drop (o + (v :: r).length) := by
      rw [List.drop_set_of_lt (by omega), List.length_cons]; congr 1; omega
    rw [e1, e2, List.append_assoc, List.append_assoc, List.append_assoc, List.singleton_append, List.cons_append]
/-- Several stores into an own row. -/
theorem own_setCells {base e size g n cap : Nat} : ∀ (vs : List Value) (o : Nat) (w : World) (ys : List Value), w.ownsRow base e size (.slice (some ⟨g, 0, none⟩) n cap) n ys → (w.setCells g o vs).ownsRow base e size (.slice (some ⟨g, 0, none⟩) n cap) n (setL o vs ys) ∧ w.grownBy (w.setCells g o vs) (some g)
  | [], o, w, ys, h => ⟨h, World.grownBy.refl _ _⟩
  | v :: r, o, w, ys, h => by
    obtain ⟨h1, g1⟩ := h.stored o v
    obtain ⟨h2, g2⟩ := own_setCells r (o + 1) _ _ h1
    exact ⟨h2, ⟨g2.os.trans g1.os, g2.tape.trans g1.tape, g2.output.trans g1.output, Nat.le_trans g1.size g2.size, fun k hk hne => (g2.block k (Nat.lt_of_lt_of_le hk g1.size) hne).trans (g1.block k hk hne)⟩⟩
/-- An own row with room, as one that is longer. -/
theorem own_wider {w : World} {base e size g n m cap : Nat} {xs : List Value} (h : w.ownsRow base e size (.slice (some ⟨g, 0, none⟩) n cap) n xs) (h1 : n ≤ m) (h2 : m ≤ cap) :
    ∃ ys, w.ownsRow base e size (.slice (some ⟨g, 0, none⟩) m cap) m ys ∧ ys.length = m * size ∧ ys.take (n * size) = xs := by
  rcases h.2 with ⟨h', _⟩ | ⟨g', cap', cur, h', hb, hg, hnc, hcm, hcs, htake⟩
  · simp at h'
  · simp only [Value.slice.injEq, Option.some.injEq, Addr.mk.injEq, and_true, true_and] at h'
    obtain ⟨rfl, rfl⟩ := h'
    have hl : (cur.toList.take (m * size)).length = m * size := by
      rw [List.length_take, Array.length_toList, hcs]
      exact Nat.min_eq_left (Nat.mul_le_mul_right _ h2)
    refine ⟨cur.toList.take (m * size), ⟨hl, .inr ⟨g, cap, cur, rfl, hb, hg, h2, hcm, hcs, rfl⟩⟩, hl, ?_⟩
    rw [List.take_take, Nat.min_eq_left (Nat.mul_le_mul_right _ h1)]
    exact htake

end Go.Proofs.Ytogbaoggebghdaa
