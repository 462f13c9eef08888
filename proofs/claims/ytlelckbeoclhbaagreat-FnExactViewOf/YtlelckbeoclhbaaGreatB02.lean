/-
  OWN TEXT: KitB, KitBks, KitRs, KitMRow.
-/
import Derived.Test.YtlelckbeoclhbaaGreatB00
import Derived.Test.YtlelckbeoclhbaaGreatB01
set_option maxHeartbeats 12800000
set_option maxRecDepth 100000
namespace Go.Proofs.YtlelckbeoclhbaaGreat
open Go.RowKit
theorem wpList_append_any {P : Program} (w : World) {ops : Array Oper} {rest : List Oper} {o : Oper} {a : Act} {Q : Exit → Act → World → Prop}
    (hg : o.guard = none) (s x : Operand) (t : TypeId) (hop : o.op = Op.call { callee := Callee.builtin Builtin.append, args := #[s, x], argTypes := #[t, t] })
    (base : Nat) (e : TypeId) (i : TypeInfo) (z : Value) (size bytes : Nat) (h1 : P.underlying t = some (.slice e)) (h2 : P.info? e = some i) (h3 : i.zero = some z) (h4 : i.size = size) (h5 : i.bytes = bytes) (h6 : z.cells.size = size) (h7 : 0 < size)
    (v : Value) (n : Nat) (xs : List Value) (hs : a.eval s = v) (h : w.ownsRow base e size v n xs)
    (sa : Option Addr) (m c : Nat) (news : List Value) (hx : a.eval x = .slice sa m c) (hnil : sa = none → m = 0 ∧ c = 0) (hn : news.length = m * size) (hc : ∀ ad, sa = some ad → ∀ j u, news[j]? = some u → w.cell? (ad.add j) = some u) (h1c : ∀ u ∈ news, u.oneCell' = true)
    (b1 : n + m ≤ maxLen) (b2 : (n + m) * bytes ≤ 140737488355328) (hbase : base ≤ w.heap.size)
    (hK : ∀ v' w', w'.ownsRow base e size v' (n + m) (xs ++ news) → w.grownBy w' v.ownBlock → wpList P ops Q rest (a.put o.dst v') w') :
    wpList P ops Q (o :: rest) a w := by
  cases sa with
  | none =>
    obtain ⟨rfl, rfl⟩ := hnil rfl
    have hnews : news = [] := List.eq_nil_of_length_eq_zero (by simpa using hn)
    subst hnews
    refine wpList_append_own_none hg s x t hop base e i size h1 h2 v n xs hs h hx (hK v w ?_ (World.grownBy.refl w _))
    rw [Nat.add_zero, List.append_nil]; exact h
  | some ad =>
    refine wpList_append_own w hg s x t hop base e i z size bytes h1 h2 h3 h4 h5 h6 h7 v n xs hs h ad m c news hx hn (hc ad rfl) h1c b1 b2 hbase ?_
    intro v' w' ho hgr _
    exact hK v' w' ho hgr
theorem ints_cells {w : World} {ao : Option Addr} {ls : List Int} (h : IntsAt w ao ls.length (getI ls)) : ∀ ad, ao = some ad → ∀ j u, (cellsI ls)[j]? = some u → w.cell? (ad.add j) = some u := by
  intro ad e j u hu
  obtain ⟨hj, rfl⟩ := intList_get _ _ _ _ hu
  obtain ⟨b, off, e2, hc⟩ := h j hj
  rw [e] at e2
  cases e2
  rw [Addr.add_lit]
  exact hc
theorem cellsI_length (ls : List Int) : (cellsI ls).length = ls.length := by unfold cellsI; exact intList_length _ _
theorem cellsI_one (ls : List Int) : ∀ u ∈ cellsI ls, u.oneCell' = true := intList_one _ _
theorem cellsI_append (a b : List Int) : cellsI (a ++ b) = cellsI a ++ cellsI b := by
  have key : ∀ l : List Int, cellsI l = l.map (fun x => .int .i64 x) := by
    intro l
    unfold cellsI intList getI
    apply List.ext_getElem?
    intro i
    by_cases hi : i < l.length
    · rw [List.getElem?_map, List.getElem?_range hi, List.getElem?_map, List.getElem?_eq_getElem hi]
      simp [List.getD_eq_getElem?_getD, List.getElem?_eq_getElem hi]
    · rw [List.getElem?_eq_none (by simpa using hi), List.getElem?_eq_none (by simpa using hi)]
  rw [key, key, key, List.map_append]
theorem own_legs {w : World} {base e c : Nat} {ao : Option Addr} {ls : List Int} {n : Nat} (hn : ls.length = n) (h : w.ownsRow base e 1 (.slice ao n c) n (cellsI ls)) : IntsAt w ao n (getI ls) := by
  subst hn
  exact own_ints h
end Go.Proofs.YtlelckbeoclhbaaGreat

namespace Go.Proofs.YtlelckbeoclhbaaGreat
open Go.RowKit
theorem own_notE {w : World} {base e size n : Nat} {v : Value} {xs : List Value} (h : w.ownsRow base e size v n xs) {b t : Nat} {cs : Array Value} (hb : w.heap[b]? = some (.cells cs t (0, 0))) (hne : e ≠ t) : ∀ g, v.ownBlock = some g → ¬ g = b := by
  rintro g hg rfl
  rcases h.2 with ⟨rfl, _⟩ | ⟨g', cap', cur, rfl, _, hg', _⟩
  · simp [Value.ownBlock] at hg
  · simp only [Value.ownBlock, Option.some.injEq] at hg
    subst hg
    rw [hg'] at hb
    simp only [Option.some.injEq, Obj.cells.injEq] at hb
    exact hne hb.2.1
def bkC (S : Nat → Book) (L : Nat → Value) (k : Nat) : List Value :=
  [.int .i64 (S k).name, .int .i64 (S k).who, .string (S k).own, L k, .int .i64 (S k).pe, .int .i64 (S k).len, .int .i64 (S k).hei, .int .i64 (S k).cl, .bool (S k).all, .int .i64 (S k).be, .int .i64 (S k).state, .int .i64 (S k).unt, .int .i64 (S k).price]
def bkRow (S : Nat → Book) (L : Nat → Value) (N : Nat) : List Value := (List.range (N * 13)).map (recCell 13 (bkC S L))
structure OwnBks (w : World) (base : Nat) (v : Value) (N : Nat) (S : Nat → Book) (L : Nat → Value) : Prop where
  row : w.ownsRow base 72 13 v N (bkRow S L N)
  legs : ∀ i, i < N → w.ownsRow base 3 1 (L i) (S i).lgn (intList (S i).lg (S i).lgn)
  apart : ∀ i j, i < j → j < N → ∀ b, (L i).ownBlock = some b → (L j).ownBlock ≠ some b
theorem rec_row_snoc (sz : Nat) (hsz : 0 < sz) (C C' : Nat → List Value) (k : Nat) (vs : List Value) (hv : vs.length = sz) (hC : ∀ i, i < k → C' i = C i) (hk : C' k = vs) :
    (List.range ((k + 1) * sz)).map (recCell sz C') = (List.range (k * sz)).map (recCell sz C) ++ vs := by
  apply List.ext_getElem?
  intro j
  have h1 : ((List.range (k * sz)).map (recCell sz C)).length = k * sz := by simp
  by_cases h : j < k * sz
  · have hq : j / sz < k := (Nat.div_lt_iff_lt_mul hsz).2 h
    rw [List.getElem?_append_left (by rw [h1]; exact h), List.getElem?_map, List.getElem?_map, List.getElem?_range h, List.getElem?_range (by rw [Nat.add_mul]; omega)]
    simp only [Option.map_some]
    unfold recCell
    rw [hC _ hq]
  · rw [List.getElem?_append_right (by rw [h1]; omega), h1, List.getElem?_map]
    by_cases h2 : j < (k + 1) * sz
    · rw [List.getElem?_range h2]
      simp only [Option.map_some]
      obtain ⟨i, rfl⟩ : ∃ i, j = k * sz + i := ⟨j - k * sz, by omega⟩
      have hi : i < sz := by rw [Nat.add_mul] at h2; omega
      rw [recCell_at sz C' k i hi, hk, Nat.add_sub_cancel_left, List.getD_eq_getElem?_getD, List.getElem?_eq_getElem (by omega)]
      rfl
    · rw [List.getElem?_eq_none (by simpa using h2), List.getElem?_eq_none (by rw [Nat.add_mul] at h2; omega)]
      rfl
theorem bkRow_snoc (S : Nat → Book) (L : Nat → Value) (k : Nat) (lv : Value) : bkRow S (atV L k lv) (k + 1) = bkRow S L k ++ bkC S (atV L k lv) k :=
  rec_row_snoc 13 (by decide) (bkC S L) (bkC S (atV L k lv)) k _ rfl (fun i hi => by unfold bkC; rw [atV_ne _ _ _ _ (by omega)]) rfl
section
variable {w w' : World} {base : Nat} {v : Value} {N : Nat} {S : Nat → Book} {L : Nat → Value}
theorem OwnBks.below (h : OwnBks w base v N S L) (hb : Below w.heap.size w w') : OwnBks w' base v N S L :=
  ⟨own_below hb h.row, fun i hi => own_below hb (h.legs i hi), h.apart⟩
theorem OwnBks.kept {T : Nat → Prop} (h : OwnBks w base v N S L) (hk : Kept w w' T) (hT : ∀ b, T b → base ≤ b → b < w.heap.size → False) : OwnBks w' base v N S L :=
  ⟨hk.own h.row (fun g hg s => hT g s (h.row.lt g hg).1 (h.row.lt g hg).2), fun i hi => hk.own (h.legs i hi) (fun g hg s => hT g s ((h.legs i hi).lt g hg).1 ((h.legs i hi).lt g hg).2), h.apart⟩
theorem OwnBks.other {T : Nat → Prop} (h : OwnBks w base v N S L) (hk : Kept w w' T) (hT : ∀ b, T b → ∃ cs t, w.heap[b]? = some (.cells cs t (0, 0)) ∧ 72 ≠ t ∧ 3 ≠ t) : OwnBks w' base v N S L :=
  ⟨hk.own h.row (fun g hg s => by obtain ⟨cs, t, h1, h2, _⟩ := hT g s; exact own_notE h.row h1 h2 g hg rfl), fun i hi => hk.own (h.legs i hi) (fun g hg s => by obtain ⟨cs, t, h1, _, h2⟩ := hT g s; exact own_notE (h.legs i hi) h1 h2 g hg rfl), h.apart⟩
theorem OwnBks.lower {b1 b2 : Nat} (h : OwnBks w b1 v N S L) (hb : b2 ≤ b1) : OwnBks w b2 v N S L :=
  ⟨own_base h.row hb, fun i hi => own_base (h.legs i hi) hb, h.apart⟩
theorem OwnBks.nil (w : World) (base : Nat) (S : Nat → Book) (L : Nat → Value) : OwnBks w base (.slice none 0 0) 0 S L :=
  ⟨⟨rfl, .inl ⟨rfl, rfl⟩⟩, fun i hi => by omega, fun i j hi hj => by omega⟩
theorem OwnBks.is (h : OwnBks w base v N S L) {k : Nat} (hk : k < N) : Book.Is w (bkC S L k) (S k) := by
  obtain ⟨ra, rc, e, l1, l2, l3⟩ := own_form (h.legs k hk)
  have o := h.legs k hk
  rw [e] at o
  unfold maxLen at l2
  exact ⟨ra, rc, by unfold bkC; rw [e], own_ints o, ⟨l1, by omega, l3⟩⟩
theorem OwnBks.at {ao : Option Addr} {c : Nat} (h : OwnBks w base (.slice ao N c) N S L) : BooksAt w ao N S := by
  refine ⟨bkC S L, fun k hk => ?_, fun k hk => h.is hk⟩
  obtain ⟨g, rfl, _, _⟩ := own_addr h.row (by omega)
  refine ⟨g, 0, rfl, fun j hj => ?_⟩
  rw [Nat.zero_add, own_cell h.row (k * 13 + j) (by omega) rfl, recCell_at 13 _ k j hj]
theorem OwnBks.snoc {k : Nat} {v' lv : Value} {lim : Nat} (h : OwnBks w base v k S L) (hlim : ∀ i, i < k → ∀ b, (L i).ownBlock = some b → b < lim)
    (hl : w.ownsRow lim 3 1 lv (S k).lgn (intList (S k).lg (S k).lgn)) (hbl : base ≤ lim) (hg : w.grownBy w' v.ownBlock)
    (ho : w'.ownsRow base 72 13 v' (k + 1) (bkRow S L k ++ bkC S (atV L k lv) k)) : OwnBks w' base v' (k + 1) S (atV L k lv) := by
  have hk := kept_row hg
  refine ⟨by rw [bkRow_snoc]; exact ho, fun i hi => ?_, fun i j hij hj => ?_⟩
  · by_cases e : i = k
    · subst e; rw [atV_at]; exact hk.own (own_base hl hbl) (fun g hg1 hg2 => own_apart h.row (own_base hl hbl) (by decide) g hg2 hg1)
    · rw [atV_ne _ _ _ _ e]; exact hk.own (h.legs i (by omega)) (fun g hg1 hg2 => own_apart h.row (h.legs i (by omega)) (by decide) g hg2 hg1)
  · by_cases e : j = k
    · subst e
      rw [atV_at, atV_ne _ _ _ _ (by omega)]
      intro b h1 h3
      have a := hlim i hij b h1
      have c := (hl.lt b h3).1
      omega
    · rw [atV_ne _ _ _ _ e, atV_ne _ _ _ _ (by omega)]
      exact h.apart i j hij (by omega)
theorem OwnBks.congr {S' : Nat → Book} (h : OwnBks w base v N S L) (e : ∀ i, i < N → S i = S' i) : OwnBks w base v N S' L := by
  refine ⟨?_, fun i hi => by rw [← e i hi]; exact h.legs i hi, h.apart⟩
  have e2 : bkRow S' L N = bkRow S L N := List.map_congr_left fun j hj => by
    have hj' : j < N * 13 := by simpa using hj
    unfold recCell bkC
    rw [e (j / 13) (by omega)]
  rw [e2]
  exact h.row
end
end Go.Proofs.YtlelckbeoclhbaaGreat

namespace Go.Proofs.YtlelckbeoclhbaaGreat
open Go.RowKit
def setC (C : Nat → List Value) (t f : Nat) (v : Value) (i : Nat) : List Value := if i = t then (C t).set f v else C i
theorem setC_at (C : Nat → List Value) (t f : Nat) (v : Value) : setC C t f v t = (C t).set f v := if_pos rfl
theorem setC_ne (C : Nat → List Value) {t i : Nat} (f : Nat) (v : Value) (h : i ≠ t) : setC C t f v i = C i := if_neg h
theorem own_rec {w : World} {base e sz g c N : Nat} {C : Nat → List Value} (h : w.ownsRow base e sz (.slice (some ⟨g, 0, none⟩) N c) N ((List.range (N * sz)).map (recCell sz C))) (t f : Nat) (v : Value) (hl : (C t).length = sz) (hf : f < sz) :
    (w.setCell ⟨g, t * sz + f, none⟩ v).ownsRow base e sz (.slice (some ⟨g, 0, none⟩) N c) N ((List.range (N * sz)).map (recCell sz (setC C t f v))) := by
  have h0 : 0 < sz := by omega
  refine own_congr (own_store h (t * sz + f) v) (fun j _ => ?_)
  by_cases e : j = t * sz + f
  · subst e
    rw [if_pos rfl, recCell_at sz _ t f hf, setC_at, List.getD_eq_getElem?_getD, List.getElem?_set_self (by omega)]
    rfl
  · rw [if_neg e]
    unfold recCell
    by_cases e2 : j / sz = t
    · have e3 : j % sz ≠ f := fun e3 => e (by have := Nat.div_add_mod j sz; rw [e2, e3, Nat.mul_comm] at this; omega)
      rw [e2, setC_at, List.getD_eq_getElem?_getD, List.getD_eq_getElem?_getD, List.getElem?_set_ne (fun h => e3 h.symm)]
    · rw [setC_ne _ _ _ e2]
theorem own_recs {w : World} {base e sz n N : Nat} {v : Value} {C C' : Nat → List Value} (h : w.ownsRow base e sz v n ((List.range (N * sz)).map (recCell sz C))) (h0 : 0 < sz) (hC : ∀ i, i < N → C i = C' i) : w.ownsRow base e sz v n ((List.range (N * sz)).map (recCell sz C')) :=
  own_congr h (fun j hj => by unfold recCell; rw [hC _ ((Nat.div_lt_iff_lt_mul h0).2 hj)])
theorem own_rcell {w : World} {base e sz g c N : Nat} {C : Nat → List Value} (h : w.ownsRow base e sz (.slice (some ⟨g, 0, none⟩) N c) N ((List.range (N * sz)).map (recCell sz C))) {t f : Nat} (ht : t < N) (hf : f < sz) : w.cell? ⟨g, t * sz + f, none⟩ = some ((C t).getD f (.bool false)) := by
  have hlt : t * sz + f < N * sz := by
    have h1 : (t + 1) * sz ≤ N * sz := Nat.mul_le_mul_right sz ht
    have h2 : (t + 1) * sz = t * sz + sz := Nat.succ_mul t sz
    omega
  rw [own_cell h (t * sz + f) hlt rfl, recCell_at sz C t f hf]
end Go.Proofs.YtlelckbeoclhbaaGreat

namespace Go.Proofs.YtlelckbeoclhbaaGreat
open Go.RowKit
structure MRow where
  name : Int
  own : ByteArray
  pe : Int
  ln : Int
  cab : Int
def MRow.zero : MRow := ⟨0, ⟨#[]⟩, 0, 0, 0⟩
instance : Inhabited MRow := ⟨MRow.zero⟩
def MRow.v (s : MRow) : Value := .agg #[.int .i64 s.name, .string s.own, .int .i64 s.pe, .int .i64 s.ln, .int .i64 s.cab]
def MRowsAt (w : World) (ao : Option Addr) (n : Nat) (S : Nat → MRow) : Prop :=
  ∀ k, k < n → ∃ b off, ao = some ⟨b, off, none⟩ ∧ w.cell? ⟨b, off + k * 5, none⟩ = some (.int .i64 (S k).name) ∧ w.cell? ⟨b, off + k * 5 + 1, none⟩ = some (.string (S k).own) ∧ w.cell? ⟨b, off + k * 5 + 2, none⟩ = some (.int .i64 (S k).pe) ∧ w.cell? ⟨b, off + k * 5 + 3, none⟩ = some (.int .i64 (S k).ln) ∧ w.cell? ⟨b, off + k * 5 + 4, none⟩ = some (.int .i64 (S k).cab)
theorem MRowsAt.below {w w' : World} {ao : Option Addr} {n : Nat} {S : Nat → MRow} (h : MRowsAt w ao n S) (hb : Below w.heap.size w w') : MRowsAt w' ao n S := by
  intro k hk
  obtain ⟨b, off, e, h0, h1, h2, h3, h4⟩ := h k hk
  have hlt : b < w.heap.size := World.block_lt_of_cell? w _ h0
  exact ⟨b, off, e, (hb.cell hlt).trans h0, (hb.cell hlt).trans h1, (hb.cell hlt).trans h2, (hb.cell hlt).trans h3, (hb.cell hlt).trans h4⟩
theorem MRowsAt.upto {w : World} {ao : Option Addr} {n i : Nat} {S : Nat → MRow} (h : MRowsAt w ao n S) (hi : i ≤ n) : MRowsAt w ao i S := fun k hk => h k (by omega)
def rowCell (S : Nat → MRow) (j : Nat) : Value :=
  if j % 5 = 0 then .int .i64 (S (j / 5)).name else if j % 5 = 1 then .string (S (j / 5)).own else if j % 5 = 2 then .int .i64 (S (j / 5)).pe else if j % 5 = 3 then .int .i64 (S (j / 5)).ln else .int .i64 (S (j / 5)).cab
theorem rowCell_0 (S : Nat → MRow) (k : Nat) : rowCell S (k * 5) = .int .i64 (S k).name := by
  unfold rowCell; rw [if_pos (by omega), show k * 5 / 5 = k by omega]
theorem rowCell_1 (S : Nat → MRow) (k : Nat) : rowCell S (k * 5 + 1) = .string (S k).own := by
  unfold rowCell; rw [if_neg (by omega), if_pos (by omega), show (k * 5 + 1) / 5 = k by omega]
theorem rowCell_2 (S : Nat → MRow) (k : Nat) : rowCell S (k * 5 + 2) = .int .i64 (S k).pe := by
  unfold rowCell; rw [if_neg (by omega), if_neg (by omega), if_pos (by omega), show (k * 5 + 2) / 5 = k by omega]
theorem rowCell_3 (S : Nat → MRow) (k : Nat) : rowCell S (k * 5 + 3) = .int .i64 (S k).ln := by
  unfold rowCell; rw [if_neg (by omega), if_neg (by omega), if_neg (by omega), if_pos (by omega), show (k * 5 + 3) / 5 = k by omega]
theorem rowCell_4 (S : Nat → MRow) (k : Nat) : rowCell S (k * 5 + 4) = .int .i64 (S k).cab := by
  unfold rowCell; rw [if_neg (by omega), if_neg (by omega), if_neg (by omega), if_neg (by omega), show (k * 5 + 4) / 5 = k by omega]
theorem MRowsAt.of_row {w : World} {g t n : Nat} {S : Nat → MRow} (h : w.rowIs g t (n * 5) (rowCell S)) : MRowsAt w (some ⟨g, 0, none⟩) n S := by
  intro k hk
  refine ⟨g, 0, rfl, ?_, ?_, ?_, ?_, ?_⟩
  · rw [Nat.zero_add, h.cell (by omega), rowCell_0]
  · rw [Nat.zero_add, h.cell (by omega), rowCell_1]
  · rw [Nat.zero_add, h.cell (by omega), rowCell_2]
  · rw [Nat.zero_add, h.cell (by omega), rowCell_3]
  · rw [Nat.zero_add, h.cell (by omega), rowCell_4]
theorem made_rows (n : Nat) (j : Nat) (hj : j < n * 5) : (madeCells (Value.agg #[.int .i64 0, .string ⟨#[]⟩, .int .i64 0, .int .i64 0, .int .i64 0]).cells (n * 5)).toList.getD j (.bool false) = rowCell (fun _ => MRow.zero) j := by
  have hz : (Value.agg #[.int .i64 0, .string ⟨#[]⟩, .int .i64 0, .int .i64 0, .int .i64 0]).cells = #[.int .i64 0, .string ⟨#[]⟩, .int .i64 0, .int .i64 0, .int .i64 0] := rfl
  rw [hz]
  simp only [madeCells, Array.toList_map, List.getD_eq_getElem?_getD, List.getElem?_map, Array.toList_range, List.getElem?_range hj, Option.map_some, Option.getD_some]
  unfold rowCell
  have : j % 5 = 0 ∨ j % 5 = 1 ∨ j % 5 = 2 ∨ j % 5 = 3 ∨ j % 5 = 4 := by omega
  rcases this with h | h | h | h | h <;> simp [h, MRow.zero]
theorem row_set {w : World} {g t n k : Nat} {S S' : Nat → MRow} (h : w.rowIs g t n (rowCell S)) (hS : ∀ i, i ≠ k → S' i = S i) :
    (((((w.setCell ⟨g, k * 5, none⟩ (.int .i64 (S' k).name)).setCell ⟨g, k * 5 + 1, none⟩ (.string (S' k).own)).setCell ⟨g, k * 5 + 2, none⟩ (.int .i64 (S' k).pe)).setCell ⟨g, k * 5 + 3, none⟩ (.int .i64 (S' k).ln)).setCell ⟨g, k * 5 + 4, none⟩ (.int .i64 (S' k).cab)).rowIs g t n (rowCell S') := by
  refine (((((h.set (k * 5) _).set (k * 5 + 1) _).set (k * 5 + 2) _).set (k * 5 + 3) _).set (k * 5 + 4) _).congr fun j _ => ?_
  by_cases h4 : j = k * 5 + 4
  · subst h4; rw [if_pos rfl, rowCell_4]
  rw [if_neg h4]
  by_cases h3 : j = k * 5 + 3
  · subst h3; rw [if_pos rfl, rowCell_3]
  rw [if_neg h3]
  by_cases h2 : j = k * 5 + 2
  · subst h2; rw [if_pos rfl, rowCell_2]
  rw [if_neg h2]
  by_cases h1 : j = k * 5 + 1
  · subst h1; rw [if_pos rfl, rowCell_1]
  rw [if_neg h1]
  by_cases h0 : j = k * 5
  · subst h0; rw [if_pos rfl, rowCell_0]
  rw [if_neg h0]
  have hk : j / 5 ≠ k := by omega
  unfold rowCell
  rw [hS _ hk]
def rowList (S : Nat → MRow) (n : Nat) : List Value := (List.range (n * 5)).map (rowCell S)
theorem rowList_length (S : Nat → MRow) (n : Nat) : (rowList S n).length = n * 5 := by simp [rowList]
theorem rowList_get {S : Nat → MRow} {n j : Nat} {u : Value} (h : (rowList S n)[j]? = some u) : j < n * 5 ∧ u = rowCell S j := by
  unfold rowList at h
  rw [List.getElem?_map] at h
  by_cases hj : j < n * 5
  · rw [List.getElem?_range hj] at h; simp at h; exact ⟨hj, h.symm⟩
  · rw [List.getElem?_eq_none (by simpa using hj)] at h; cases h
theorem rowList_one (S : Nat → MRow) (n : Nat) : ∀ u ∈ rowList S n, u.oneCell' = true := by
  intro u hu
  unfold rowList at hu
  simp only [List.mem_map] at hu
  obtain ⟨j, _, rfl⟩ := hu
  unfold rowCell
  repeat' split
  all_goals rfl
theorem rowList_succ (S : Nat → MRow) (k : Nat) : rowList S (k + 1) = rowList S k ++ [.int .i64 (S k).name, .string (S k).own, .int .i64 (S k).pe, .int .i64 (S k).ln, .int .i64 (S k).cab] := by
  unfold rowList
  rw [show (k + 1) * 5 = k * 5 + 1 + 1 + 1 + 1 + 1 by omega, List.range_succ, List.range_succ, List.range_succ, List.range_succ, List.range_succ]
  simp only [List.map_append, List.map_cons, List.map_nil, List.append_assoc, List.cons_append, List.nil_append, rowCell_0, rowCell_1, rowCell_2, rowCell_3, rowCell_4]
theorem rowList_congr {S S' : Nat → MRow} {n : Nat} (h : ∀ i, i < n → S i = S' i) : rowList S n = rowList S' n := by
  unfold rowList
  refine List.map_congr_left (fun j hj => ?_)
  have hj' : j < n * 5 := by simpa using hj
  unfold rowCell
  rw [h (j / 5) (by omega)]
def rowCat (S : Nat → MRow) (n : Nat) (T : Nat → MRow) (i : Nat) : MRow := if i < n then S i else T (i - n)
theorem rowList_cat (S T : Nat → MRow) (n j : Nat) : rowList (rowCat S n T) (n + j) = rowList S n ++ rowList T j := by
  induction j with
  | zero =>
    have : rowList T 0 = [] := by simp [rowList]
    rw [this, List.append_nil, Nat.add_zero]
    exact rowList_congr (fun i hi => if_pos hi)
  | succ j ih =>
    rw [show n + (j + 1) = n + j + 1 by omega, rowList_succ, rowList_succ, ih, List.append_assoc]
    have : rowCat S n T (n + j) = T j := by unfold rowCat; rw [if_neg (by omega), show n + j - n = j by omega]
    rw [this]
theorem rows_cells {w : World} {ao : Option Addr} {n : Nat} {S : Nat → MRow} (h : MRowsAt w ao n S) : ∀ ad, ao = some ad → ∀ j u, (rowList S n)[j]? = some u → w.cell? (ad.add j) = some u := by
  intro ad e j u hu
  obtain ⟨hj, rfl⟩ := rowList_get hu
  obtain ⟨b, off, e', h0, h1, h2, h3, h4⟩ := h (j / 5) (by omega)
  rw [e] at e'
  simp only [Option.some.injEq] at e'
  subst e'
  rw [Addr.add_lit]
  have hm : j % 5 = 0 ∨ j % 5 = 1 ∨ j % 5 = 2 ∨ j % 5 = 3 ∨ j % 5 = 4 := by omega
  rcases hm with hm | hm | hm | hm | hm
  · rw [show off + j = off + j / 5 * 5 by omega, h0]; unfold rowCell; simp [hm]
  · rw [show off + j = off + j / 5 * 5 + 1 by omega, h1]; unfold rowCell; simp [hm]
  · rw [show off + j = off + j / 5 * 5 + 2 by omega, h2]; unfold rowCell; simp [hm]
  · rw [show off + j = off + j / 5 * 5 + 3 by omega, h3]; unfold rowCell; simp [hm]
  · rw [show off + j = off + j / 5 * 5 + 4 by omega, h4]; unfold rowCell; simp [hm]
theorem rows_of_own {w : World} {base e n c : Nat} {ao : Option Addr} {S : Nat → MRow} (h : w.ownsRow base e 5 (.slice ao n c) n (rowList S n)) : MRowsAt w ao n S := by
  intro k hk
  obtain ⟨g, rfl, _, _⟩ := own_addr h (by omega)
  have c0 := own_cell h (k * 5) (by omega) rfl
  rw [rowCell_0] at c0
  have c1 := own_cell h (k * 5 + 1) (by omega) rfl
  rw [rowCell_1] at c1
  have c2 := own_cell h (k * 5 + 2) (by omega) rfl
  rw [rowCell_2] at c2
  have c3 := own_cell h (k * 5 + 3) (by omega) rfl
  rw [rowCell_3] at c3
  have c4 := own_cell h (k * 5 + 4) (by omega) rfl
  rw [rowCell_4] at c4
  exact ⟨g, 0, rfl, by rw [Nat.zero_add]; exact c0, by rw [Nat.zero_add]; exact c1, by rw [Nat.zero_add]; exact c2, by rw [Nat.zero_add]; exact c3, by rw [Nat.zero_add]; exact c4⟩
theorem rows_in {w : World} {ao : Option Addr} {n : Nat} {S : Nat → MRow} (h : MRowsAt w ao n S) : n = 0 ∨ ∃ b off, ao = some ⟨b, off, none⟩ ∧ b < w.heap.size := by
  by_cases h0 : n = 0
  · exact .inl h0
  · obtain ⟨b, off, rfl, h1, _⟩ := h 0 (by omega)
    exact .inr ⟨b, off, rfl, World.block_lt_of_cell? w _ h1⟩
end Go.Proofs.YtlelckbeoclhbaaGreat
