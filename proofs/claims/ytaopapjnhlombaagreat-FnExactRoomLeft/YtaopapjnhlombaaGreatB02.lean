/-
  OWN TEXT: KitD, KitStay, InfoStay.
-/
import Derived.Test.YtaopapjnhlombaaGreatRows
import Derived.Test.YtaopapjnhlombaaGreatB01
import Derived.Test.YtaopapjnhlombaaGreatB00
namespace Go.Proofs.YtaopapjnhlombaaGreat
open Go.RowKit

/-- The cell j of a row of records of sz cells each. -/
def recCell (sz : Nat) (C : Nat → List Value) (j : Nat) : Value := (C (j / sz)).getD (j % sz) (.bool false)
theorem recCell_at (sz : Nat) (C : Nat → List Value) (k j : Nat) (hj : j < sz) : recCell sz C (k * sz + j) = (C k).getD j (.bool false) := by
  unfold recCell
  have h0 : 0 < sz := by omega
  rw [show (k * sz + j) / sz = k by rw [Nat.add_comm, Nat.add_mul_div_right _ _ h0, Nat.div_eq_of_lt hj, Nat.zero_add], show (k * sz + j) % sz = j by rw [Nat.add_comm, Nat.add_mul_mod_self_right, Nat.mod_eq_of_lt hj]]
/-- A run of stores into one block. -/
def setFrom (w : World) (g : Nat) : Nat → List Value → World
  | _, [] => w
  | o, v :: vs => setFrom (w.setCell ⟨g, o, none⟩ v) g (o + 1) vs
theorem setFrom_other {g x t n : Nat} {f : Nat → Value} (hx : x ≠ g) : ∀ (vs : List Value) (o : Nat) (w : World), w.rowIs x t n f → (setFrom w g o vs).rowIs x t n f
  | [], _, _, h => h
  | v :: r, o, _, h => setFrom_other hx r (o + 1) _ (h.setOther (by exact hx) v)
theorem setFrom_blk_other {g b : Nat} {x : Obj} (hne : b ≠ g) : ∀ (vs : List Value) (o : Nat) (w : World), w.heap[b]? = some x → (setFrom w g o vs).heap[b]? = some x
  | [], _, _, h => h
  | v :: r, o, _, h => setFrom_blk_other hne r (o + 1) _ (blk_set_other h o v hne)
theorem setFrom_below {g : Nat} {w0 : World} (hg : w0.heap.size ≤ g) : ∀ (vs : List Value) (o : Nat) (w : World), Below w0.heap.size w0 w → Below w0.heap.size w0 (setFrom w g o vs)
  | [], _, _, h => h
  | v :: r, o, _, h => setFrom_below hg r (o + 1) _ (h.setCell (by exact hg) v)
theorem setFrom_kept {g : Nat} {S : Nat → Prop} {w0 : World} (hg : S g) : ∀ (vs : List Value) (o : Nat) (w : World), Kept w0 w S → Kept w0 (setFrom w g o vs) S
  | [], _, _, h => h
  | v :: r, o, _, h => setFrom_kept hg r (o + 1) _ (h.set (a := ⟨g, o, none⟩) hg v)
theorem setFrom_size (g : Nat) : ∀ (vs : List Value) (o : Nat) (w : World), (setFrom w g o vs).heap.size = w.heap.size
  | [], _, _ => rfl
  | v :: r, o, w => by rw [setFrom, setFrom_size g r (o + 1), World.size_setCell]
theorem setFrom_row {b t n : Nat} : ∀ (vs : List Value) (o : Nat) (w : World) (f : Nat → Value), w.rowIs b t n f → (setFrom w b o vs).rowIs b t n (fun j => if o ≤ j ∧ j < o + vs.length then vs.getD (j - o) (.bool false) else f j)
  | [], o, w, f, h => h.congr (fun j _ => by rw [if_neg (by simp)])
  | v :: r, o, w, f, h => by
    have ih := setFrom_row r (o + 1) _ _ (h.set o v)
    refine ih.congr (fun j _ => ?_)
    by_cases h1 : j = o
    · subst h1
      rw [if_neg (by omega), if_pos rfl, if_pos (by simp), Nat.sub_self]
      rfl
    · by_cases h2 : o + 1 ≤ j ∧ j < o + 1 + r.length
      · rw [if_pos h2, if_pos (by simp; omega), show j - o = (j - (o + 1)) + 1 by omega]
        simp
      · rw [if_neg h2, if_neg h1, if_neg (by simp; omega)]
/-- A record is stored into a row of records. -/
theorem rec_set {w : World} {g t n sz k : Nat} {C C' : Nat → List Value} {vs : List Value} (h : w.rowIs g t n (recCell sz C)) (hv : vs.length = sz) (h0 : 0 < sz) (hC : ∀ i, i ≠ k → C' i = C i) (hk : C' k = vs) :
    (setFrom w g (k * sz) vs).rowIs g t n (recCell sz C') := by
  refine (setFrom_row vs (k * sz) w _ h).congr fun j _ => ?_
  by_cases e : j / sz = k
  · have h1 : k * sz ≤ j := by rw [← e]; exact Nat.div_mul_le_self j sz
    have h2 : j < k * sz + sz := by
      have := Nat.lt_div_mul_add h0 (a := j)
      rw [e] at this; exact this
    rw [if_pos ⟨h1, by omega⟩]
    unfold recCell
    rw [e, hk, show j % sz = j - k * sz by have := Nat.div_add_mod j sz; rw [e, Nat.mul_comm] at this; omega]
  · rw [if_neg (by
      rintro ⟨h1, h2⟩
      apply e
      rw [hv] at h2
      have : j = (j - k * sz) + k * sz := by omega
      rw [this, Nat.add_mul_div_right _ _ h0, Nat.div_eq_of_lt (by omega), Nat.zero_add])]
    unfold recCell
    rw [hC _ e]

/-- The slice at ao reads as N records of sz cells. -/
def RecsAt (w : World) (ao : Option Addr) (N sz : Nat) (C : Nat → List Value) : Prop :=
  ∀ k, k < N → ∃ b off, ao = some ⟨b, off, none⟩ ∧ ∀ j, j < sz → w.cell? ⟨b, off + k * sz + j, none⟩ = some ((C k).getD j (.bool false))
theorem RecsAt.below {w w' : World} {ao : Option Addr} {N sz : Nat} {C : Nat → List Value} (h : RecsAt w ao N sz C) (hb : Below w.heap.size w w') : RecsAt w' ao N sz C := by
  intro k hk
  obtain ⟨b, off, e, hc⟩ := h k hk
  exact ⟨b, off, e, fun j hj => (hb.cell (World.block_lt_of_cell? w _ (hc j hj))).trans (hc j hj)⟩
theorem RecsAt.of_row {w : World} {g t N sz : Nat} {C : Nat → List Value} (h : w.rowIs g t (N * sz) (recCell sz C)) : RecsAt w (some ⟨g, 0, none⟩) N sz C := by
  intro k hk
  refine ⟨g, 0, rfl, fun j hj => ?_⟩
  have : k * sz + j < N * sz := by
    have h1 : (k + 1) * sz ≤ N * sz := Nat.mul_le_mul_right sz hk
    rw [Nat.add_mul] at h1
    omega
  rw [Nat.zero_add, h.cell this, recCell_at sz C k j hj]
theorem RecsAt.upto {w : World} {ao : Option Addr} {N M sz : Nat} {C : Nat → List Value} (h : RecsAt w ao N sz C) (hM : M ≤ N) : RecsAt w ao M sz C := fun k hk => h k (by omega)

/-- The cells of N made records that are all zero. -/
theorem made_recs {z : Array Value} {sz : Nat} (hz : z.size = sz) (n j : Nat) (hj : j < n * sz) : (madeCells z (n * sz)).toList.getD j (.bool false) = recCell sz (fun _ => z.toList) j := by
  have h0 : 0 < sz := by rcases Nat.eq_zero_or_pos sz with h | h; subst h; omega; exact h
  simp only [madeCells, Array.toList_map, List.getD_eq_getElem?_getD, List.getElem?_map, Array.toList_range, List.getElem?_range hj, Option.map_some, Option.getD_some]
  unfold recCell
  rw [List.getD_eq_getElem?_getD]
  have hm : j % sz < z.size := by rw [hz]; exact Nat.mod_lt _ h0
  simp [hz]
  rw [getElem!_pos z _ hm, Array.getElem?_eq_getElem hm]
  rfl

end Go.Proofs.YtaopapjnhlombaaGreat

namespace Go.Proofs.YtaopapjnhlombaaGreat
open Go.RowKit

structure Stay where
  who : Int
  ln : Int
  len : Int
  hei : Int
def Stay.zero : Stay := ⟨0, 0, 0, 0⟩
instance : Inhabited Stay := ⟨Stay.zero⟩
/-- The record as a value. -/
def Stay.v (s : Stay) : Value := .agg #[.int .i64 s.who, .int .i64 s.ln, .int .i64 s.len, .int .i64 s.hei]
/-- The slice at ao reads as n records. -/
def StaysAt (w : World) (ao : Option Addr) (n : Nat) (S : Nat → Stay) : Prop :=
  ∀ k, k < n → ∃ b off, ao = some ⟨b, off, none⟩ ∧ w.cell? ⟨b, off + k * 4, none⟩ = some (.int .i64 (S k).who) ∧ w.cell? ⟨b, off + k * 4 + 1, none⟩ = some (.int .i64 (S k).ln) ∧ w.cell? ⟨b, off + k * 4 + 2, none⟩ = some (.int .i64 (S k).len) ∧ w.cell? ⟨b, off + k * 4 + 3, none⟩ = some (.int .i64 (S k).hei)
theorem StaysAt.below {w w' : World} {ao : Option Addr} {n : Nat} {S : Nat → Stay} (h : StaysAt w ao n S) (hb : Below w.heap.size w w') : StaysAt w' ao n S := by
  intro k hk
  obtain ⟨b, off, e, h0, h1, h2, h3⟩ := h k hk
  have hlt : b < w.heap.size := World.block_lt_of_cell? w _ h0
  exact ⟨b, off, e, (hb.cell hlt).trans h0, (hb.cell hlt).trans h1, (hb.cell hlt).trans h2, (hb.cell hlt).trans h3⟩
theorem StaysAt.upto {w : World} {ao : Option Addr} {n i : Nat} {S : Nat → Stay} (h : StaysAt w ao n S) (hi : i ≤ n) : StaysAt w ao i S := fun k hk => h k (by omega)
/-- The cell j of a row of records. -/
def stayCell (S : Nat → Stay) (j : Nat) : Value :=
  if j % 4 = 0 then .int .i64 (S (j / 4)).who else if j % 4 = 1 then .int .i64 (S (j / 4)).ln else if j % 4 = 2 then .int .i64 (S (j / 4)).len else .int .i64 (S (j / 4)).hei
theorem stayCell_0 (S : Nat → Stay) (k : Nat) : stayCell S (k * 4) = .int .i64 (S k).who := by
  unfold stayCell; rw [if_pos (by omega), show k * 4 / 4 = k by omega]
theorem stayCell_1 (S : Nat → Stay) (k : Nat) : stayCell S (k * 4 + 1) = .int .i64 (S k).ln := by
  unfold stayCell; rw [if_neg (by omega), if_pos (by omega), show (k * 4 + 1) / 4 = k by omega]
theorem stayCell_2 (S : Nat → Stay) (k : Nat) : stayCell S (k * 4 + 2) = .int .i64 (S k).len := by
  unfold stayCell; rw [if_neg (by omega), if_neg (by omega), if_pos (by omega), show (k * 4 + 2) / 4 = k by omega]
theorem stayCell_3 (S : Nat → Stay) (k : Nat) : stayCell S (k * 4 + 3) = .int .i64 (S k).hei := by
  unfold stayCell; rw [if_neg (by omega), if_neg (by omega), if_neg (by omega), show (k * 4 + 3) / 4 = k by omega]
theorem StaysAt.of_row {w : World} {g t n : Nat} {S : Nat → Stay} (h : w.rowIs g t (n * 4) (stayCell S)) : StaysAt w (some ⟨g, 0, none⟩) n S := by
  intro k hk
  refine ⟨g, 0, rfl, ?_, ?_, ?_, ?_⟩
  · rw [Nat.zero_add, h.cell (by omega), stayCell_0]
  · rw [Nat.zero_add, h.cell (by omega), stayCell_1]
  · rw [Nat.zero_add, h.cell (by omega), stayCell_2]
  · rw [Nat.zero_add, h.cell (by omega), stayCell_3]
theorem made_stays (n : Nat) (j : Nat) (hj : j < n * 4) : (madeCells (Value.agg #[.int .i64 0, .int .i64 0, .int .i64 0, .int .i64 0]).cells (n * 4)).toList.getD j (.bool false) = stayCell (fun _ => Stay.zero) j := by
  have hz : (Value.agg #[.int .i64 0, .int .i64 0, .int .i64 0, .int .i64 0]).cells = #[.int .i64 0, .int .i64 0, .int .i64 0, .int .i64 0] := rfl
  rw [hz]
  simp only [madeCells, Array.toList_map, List.getD_eq_getElem?_getD, List.getElem?_map, Array.toList_range, List.getElem?_range hj, Option.map_some, Option.getD_some]
  unfold stayCell
  have : j % 4 = 0 ∨ j % 4 = 1 ∨ j % 4 = 2 ∨ j % 4 = 3 := by omega
  rcases this with h | h | h | h <;> simp [h, Stay.zero]
/-- A record is stored into a row. -/
theorem stay_set {w : World} {g t n k : Nat} {S S' : Nat → Stay} (h : w.rowIs g t n (stayCell S)) (hS : ∀ i, i ≠ k → S' i = S i) :
    ((((w.setCell ⟨g, k * 4, none⟩ (.int .i64 (S' k).who)).setCell ⟨g, k * 4 + 1, none⟩ (.int .i64 (S' k).ln)).setCell ⟨g, k * 4 + 2, none⟩ (.int .i64 (S' k).len)).setCell ⟨g, k * 4 + 3, none⟩ (.int .i64 (S' k).hei)).rowIs g t n (stayCell S') := by
  refine ((((h.set (k * 4) _).set (k * 4 + 1) _).set (k * 4 + 2) _).set (k * 4 + 3) _).congr fun j _ => ?_
  by_cases h3 : j = k * 4 + 3
  · subst h3; rw [if_pos rfl, stayCell_3]
  rw [if_neg h3]
  by_cases h2 : j = k * 4 + 2
  · subst h2; rw [if_pos rfl, stayCell_2]
  rw [if_neg h2]
  by_cases h1 : j = k * 4 + 1
  · subst h1; rw [if_pos rfl, stayCell_1]
  rw [if_neg h1]
  by_cases h0 : j = k * 4
  · subst h0; rw [if_pos rfl, stayCell_0]
  rw [if_neg h0]
  have hk : j / 4 ≠ k := by omega
  unfold stayCell
  rw [hS _ hk]
/-- The cells of the first n records. -/
def stayList (S : Nat → Stay) (n : Nat) : List Value := (List.range (n * 4)).map (stayCell S)
theorem stayList_length (S : Nat → Stay) (n : Nat) : (stayList S n).length = n * 4 := by simp [stayList]
theorem stayList_get {S : Nat → Stay} {n j : Nat} {u : Value} (h : (stayList S n)[j]? = some u) : j < n * 4 ∧ u = stayCell S j := by
  unfold stayList at h
  rw [List.getElem?_map] at h
  by_cases hj : j < n * 4
  · rw [List.getElem?_range hj] at h; simp at h; exact ⟨hj, h.symm⟩
  · rw [List.getElem?_eq_none (by simpa using hj)] at h; cases h
theorem stayList_one (S : Nat → Stay) (n : Nat) : ∀ u ∈ stayList S n, u.oneCell' = true := by
  intro u hu
  unfold stayList at hu
  simp only [List.mem_map] at hu
  obtain ⟨j, _, rfl⟩ := hu
  unfold stayCell
  repeat' split
  all_goals rfl
theorem stayList_succ (S : Nat → Stay) (k : Nat) : stayList S (k + 1) = stayList S k ++ [.int .i64 (S k).who, .int .i64 (S k).ln, .int .i64 (S k).len, .int .i64 (S k).hei] := by
  unfold stayList
  rw [show (k + 1) * 4 = k * 4 + 1 + 1 + 1 + 1 by omega, List.range_succ, List.range_succ, List.range_succ, List.range_succ]
  simp only [List.map_append, List.map_cons, List.map_nil, List.append_assoc, List.cons_append, List.nil_append, stayCell_0, stayCell_1, stayCell_2, stayCell_3]
theorem stayList_congr {S S' : Nat → Stay} {n : Nat} (h : ∀ i, i < n → S i = S' i) : stayList S n = stayList S' n := by
  unfold stayList
  refine List.map_congr_left (fun j hj => ?_)
  have hj' : j < n * 4 := by simpa using hj
  unfold stayCell
  rw [h (j / 4) (by omega)]
/-- n records of S and then those of T. -/
def stayCat (S : Nat → Stay) (n : Nat) (T : Nat → Stay) (i : Nat) : Stay := if i < n then S i else T (i - n)
theorem stayList_cat (S T : Nat → Stay) (n j : Nat) : stayList (stayCat S n T) (n + j) = stayList S n ++ stayList T j := by
  induction j with
  | zero =>
    have : stayList T 0 = [] := by simp [stayList]
    rw [this, List.append_nil, Nat.add_zero]
    exact stayList_congr (fun i hi => if_pos hi)
  | succ j ih =>
    rw [show n + (j + 1) = n + j + 1 by omega, stayList_succ, stayList_succ, ih, List.append_assoc]
    have : stayCat S n T (n + j) = T j := by unfold stayCat; rw [if_neg (by omega), show n + j - n = j by omega]
    rw [this]
/-- The cells of a list, read at its address. -/
theorem stays_cells {w : World} {ao : Option Addr} {n : Nat} {S : Nat → Stay} (h : StaysAt w ao n S) : ∀ ad, ao = some ad → ∀ j u, (stayList S n)[j]? = some u → w.cell? (ad.add j) = some u := by
  intro ad e j u hu
  obtain ⟨hj, rfl⟩ := stayList_get hu
  obtain ⟨b, off, e', h0, h1, h2, h3⟩ := h (j / 4) (by omega)
  rw [e] at e'
  simp only [Option.some.injEq] at e'
  subst e'
  rw [Addr.add_lit]
  have hm : j % 4 = 0 ∨ j % 4 = 1 ∨ j % 4 = 2 ∨ j % 4 = 3 := by omega
  rcases hm with hm | hm | hm | hm
  · rw [show off + j = off + j / 4 * 4 by omega, h0]; unfold stayCell; simp [hm]
  · rw [show off + j = off + j / 4 * 4 + 1 by omega, h1]; unfold stayCell; simp [hm]
  · rw [show off + j = off + j / 4 * 4 + 2 by omega, h2]; unfold stayCell; simp [hm]
  · rw [show off + j = off + j / 4 * 4 + 3 by omega, h3]; unfold stayCell; simp [hm]
theorem stays_of_own {w : World} {base e n c : Nat} {ao : Option Addr} {S : Nat → Stay} (h : w.ownsRow base e 4 (.slice ao n c) n (stayList S n)) : StaysAt w ao n S := by
  intro k hk
  obtain ⟨g, rfl, _, _⟩ := own_addr h (by omega)
  have c0 := own_cell h (k * 4) (by omega) rfl
  rw [stayCell_0] at c0
  have c1 := own_cell h (k * 4 + 1) (by omega) rfl
  rw [stayCell_1] at c1
  have c2 := own_cell h (k * 4 + 2) (by omega) rfl
  rw [stayCell_2] at c2
  have c3 := own_cell h (k * 4 + 3) (by omega) rfl
  rw [stayCell_3] at c3
  exact ⟨g, 0, rfl, by rw [Nat.zero_add]; exact c0, by rw [Nat.zero_add]; exact c1, by rw [Nat.zero_add]; exact c2, by rw [Nat.zero_add]; exact c3⟩
/-- Records with their address written out. -/
theorem stays_in {w : World} {ao : Option Addr} {n : Nat} {S : Nat → Stay} (h : StaysAt w ao n S) : n = 0 ∨ ∃ b off, ao = some ⟨b, off, none⟩ ∧ b < w.heap.size := by
  by_cases h0 : n = 0
  · exact .inl h0
  · obtain ⟨b, off, rfl, h1, _⟩ := h 0 (by omega)
    exact .inr ⟨b, off, rfl, World.block_lt_of_cell? w _ h1⟩

end Go.Proofs.YtaopapjnhlombaaGreat

namespace Go.Proofs.YtaopapjnhlombaaGreat
open Go.RowKit

theorem Tryz.infoStay : (Tryz.prog.info? 124).map (fun i => (i.zero, i.size, i.bytes)) = some (some (.agg #[.int .i64 0, .int .i64 0, .int .i64 0, .int .i64 0]), 4, 32) := by kernel_rfl

end Go.Proofs.YtaopapjnhlombaaGreat
